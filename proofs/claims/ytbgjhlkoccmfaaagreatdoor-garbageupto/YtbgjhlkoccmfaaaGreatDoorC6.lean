import Derived.Shelf.Sort.Plain
import Derived.Test.YtbgjhlkoccmfaaaGreatDoorC5
open _root_ renaming List.length→y,Option.some→M,Array.size→G,Go.World.heap→H,Go.Value.ownBlock→cN,Go.World.cell?→bA,Go.World.setCell→cP,Go.World.alloc→dw,Bool.false→bD,Bool.true→cz,Nat→R,Int→Y,List→cy,Go.Calls→cR,Go.undef→jm,Go.Proofs.Tryz.prog→bN,Go.Value.slice→am,Go.Value.string→aw,Go.Value.bool→aO,Go.Value.pointer→ee,Go.Value.tuple→de,Go.Value.agg→ef,Go.World.frozen?→iH,Go.World.ownsRow→fD,Go.Value.nilIface→ib,Go.Act.put→ig,Nat.reduceAdd→jZ,Go.RowKit.Below→gC,Bool→eN,Option.none→dE,rfl→z,Or.inl→J,Or.inr→bj
namespace Go.Proofs.YtbgjhlkoccmfaaaGreatDoor
open ChangeShapes WideShapes RowKit Proofs.Tryz List
set_option maxHeartbeats 16000000
set_option linter.all false
set_option maxRecDepth 100000
variable{a e P:Z}{b c k n T:R}{d w:ae}{f x:DK}{i:dB}{l v C F:dI}{m:eD}{o:SR}{W:fB}{r:Y}{B:af}{N:Fs}{O:iF}{Q:iE}{S:E}
section
open Shelf
def Pa:Go.Shelf.Ren:=⟨λ|190=>63|125=>114|258=>113|128=>172|129=>173|302=>163|303=>164|304=>165|305=>166|306=>167|307=>168|308=>169|309=>170|310=>171|333=>232|329=>233|330=>234|334=>235|335=>236|336=>237|344=>272|n=>n,λ|31=>81|9=>9|3=>3|46=>68|0=>0|51=>97|53=>104|4=>4|183=>302|182=>301|131=>307|5=>5|218=>372|222=>375|228=>413|229=>128|n=>n,λ|n=>n⟩
def Tryz.lays190:Go.Proofs.Lays.n190 bN Pa:={mixed:=by kernel_rfl,f125:=func114.trans (cD M<|by kernel_rfl),f128:=func172.trans (cD M<|by kernel_rfl),f129:=func173.trans (cD M<|by kernel_rfl),f190:=func63.trans (cD M<|by kernel_rfl),f258:=func113.trans (cD M<|by kernel_rfl),f302:=func163.trans (cD M<|by kernel_rfl),f303:=func164.trans (cD M<|by kernel_rfl),f304:=func165.trans (cD M<|by kernel_rfl),f305:=func166.trans (cD M<|by kernel_rfl),f306:=func167.trans (cD M<|by kernel_rfl),f307:=func168.trans (cD M<|by kernel_rfl),f308:=func169.trans (cD M<|by kernel_rfl),f309:=func170.trans (cD M<|by kernel_rfl),f310:=func171.trans (cD M<|by kernel_rfl),f329:=func233.trans (cD M<|by kernel_rfl),f330:=func234.trans (cD M<|by kernel_rfl),f333:=func232.trans (cD M<|by kernel_rfl),f334:=func235.trans (cD M<|by kernel_rfl),f335:=func236.trans (cD M<|by kernel_rfl),f336:=func237.trans (cD M<|by kernel_rfl),f344:=func272.trans (cD M<|by kernel_rfl),t0:=underlying0,a0:=isAgg0,z0:=sizeOf0,v0:=zeroValue0,t3:=underlying3,a3:=isAgg3,z3:=sizeOf3,v3:=zeroValue3,t4:=underlying4,a4:=isAgg4,z4:=sizeOf4,v4:=zeroValue4,t5:=underlying5,a5:=isAgg5,z5:=sizeOf5,v5:=zeroValue5,t9:=underlying9,a9:=isAgg9,z9:=sizeOf9,v9:=zeroValue9,t31:=underlying81,a31:=isAgg81,z31:=sizeOf81,v31:=zeroValue81,t46:=underlying68,a46:=isAgg68,z46:=sizeOf68,v46:=zeroValue68,t51:=underlying97,a51:=isAgg97,z51:=sizeOf97,v51:=zeroValue97,t53:=underlying104,a53:=isAgg104,z53:=sizeOf104,v53:=zeroValue104,t131:=underlying307,a131:=isAgg307,z131:=sizeOf307,v131:=zeroValue307,t182:=underlying301,a182:=isAgg301,z182:=sizeOf301,v182:=zeroValue301,t183:=underlying302,a183:=isAgg302,z183:=sizeOf302,v183:=zeroValue302,t218:=underlying372,a218:=isAgg372,z218:=sizeOf372,v218:=zeroValue372,t222:=underlying375,a222:=isAgg375,z222:=sizeOf375,v222:=zeroValue375,t228:=underlying413,a228:=isAgg413,z228:=sizeOf413,v228:=zeroValue413,t229:=underlying128,a229:=isAgg128,z229:=sizeOf128,v229:=zeroValue128}
def strs(a:cy af):iE:=a.map Value.string
def LJ(w:Z):cR bN 173 #[bw 0] w λe a=>e=aN (ay 0)/\a=w:=by
 go_in
 go_wp2;go_ret;exact⟨by simp;kernel_rfl,z⟩
def Sv(w:Z):cR bN 114 #[bw 0] w λe a=>e=aN (ay 0)/\a=w:=by
 have h:=LJ w;go_in
 go_wp2_with(go_at_call 173;refine h.mono ?_;rintro e a⟨rfl,rfl⟩)
 go_wp2;go_ret;exact⟨z,z⟩
def LV(w:Z):cR bN 163 #[aF,ay 0,ay 0] w λe a=>e=aN (de #[])/\a=w:=by
 go_in
 go_wp2;refine iW 1 ?_;rw[im];go_wp2;go_end0;exact⟨z,z⟩
def Ys(w:Z):cR bN 113 #[aF,ay 0,ay 0,ay 0] w λe a=>e=aN (de #[])/\a=w:=by
 have h:=LV w;go_in
 go_wp2;refine iW 1 ?_;rw[im];go_wp2_with fail
 apply h.mono;rintro e a⟨rfl,rfl⟩;go_wp2;refine ci (jb z _ _ _) z ?_;exact⟨z,z⟩
def UU(w:Z):cR bN 63 #[aF] w λe a=>e=aN (de #[])/\a=w:=by
 have h:=Ys w;have b:=Sv w;go_in
 go_wp2_with(first|(go_at_call 114;refine b.mono ?_;rintro e a⟨rfl,rfl⟩)|(go_at_call 113;refine h.mono ?_;rintro e a⟨rfl,rfl⟩))
 go_wp2;go_end0;exact⟨z,z⟩
def XW(c:cy af)(S:fD a b 9 1 d (y c) (strs c))(hn:y c<=1000000000000):cR bN 63 #[d] a λE D=>E=aN (de #[])/\∃Q:cy af,Q.Perm c/\fD D b 9 1 d (y Q) (strs Q)/\I (λC=>cN d=M C) a D:=by
 obtain⟨rfl,h0⟩|⟨v,u,g,rfl,F,w,P,K,L,q⟩:=S.2;apply(UU a).mono;rintro E D⟨rfl,rfl⟩;exact⟨z,c,py _,S,I.bI _ _⟩;obtain⟨s,p⟩:=og<|c.map<|λV=>V.data.toList;(have o:y s=y c:=by rw[<-p,cS]);(have e:∀j(l:j<y c),g[j]?=M (aw c[j]):=by intro j l;(have t:(g.toList.take<|y c*1)[j]?=(strs c)[j]?:=by rw[q]);rw[tF,qw l]at t;rw[<-sK,t];simp[strs,l]);(have W:Go.Sort.Holds encStr a v 0 s.toArray:=by intro j l;(have x:j<y c:=by simpa[o]using l);have N:j<y s:=U;refine⟨?_,by simp[World.frozen?,w]⟩;rw[ez,cE w,e j x];(have:s.toArray[j]! =c[j].data.toList:=by rw[getElem!_pos _ j<|dV N];simp[<-p]);rw[this]);have h:=Any.slices_Sort_string Tryz.lays190 v 0 u s a W (az w) U;rw[o]at h;apply h.mono;rintro E D⟨rfl,aa,B,rfl⟩;obtain⟨k,A⟩:=og<|s.mergeSort<|λx a=>decide<|x<=a;(have f:k.Perm s:=by rw[<-A];exact List.mergeSort_perm _ _);rw[A];(have r:y k=y c:=by rw[f.length_eq,o]);(have m:(Go.Sort.grow (Go.Sort.putRow encStr (Go.Sort.ahead a aa) v 0 k.toArray) B).heap[v]?=M (aK (Go.Sort.putCells encStr 0 k.toArray g) 9 (0,0)):=by show((a.heap.modify v _)++B)[v]?=_;rw[pD (by simp;exact az w),sL,fV z,w];rfl);(have i:∀C,C<G (H a)->C≠v->(Go.Sort.grow (Go.Sort.putRow encStr (Go.Sort.ahead a aa) v 0 k.toArray) B).heap[C]?=a.heap[C]?:=by intro C O n;show((a.heap.modify v _)++B)[C]?=_;rw[pD (by simp;exact O),sL,fM<|λE=>n E.symm]);refine⟨z,k.map<|λT=>⟨T.toArray⟩,?_,⟨by simp[strs],bj ⟨v,u,_,by rw[cS,r],F,m,by rw[cS,r];exact P,K,by simpa[Go.Sort.putCells]using L,?_⟩⟩,z,z,z,?_,?_⟩;have t:=f.map (λT:cy UInt8=>(⟨T.toArray⟩:af));rw[<-p,iV]at t;(have x:c.map ((λT:cy UInt8=>(⟨T.toArray⟩:af))∘λV=>V.data.toList)=c:=by(conv=>rhs;rw[<-we c]);apply qg;intro V _;simp);rw[x]at t;exact t;apply wh;intro j;rw[cS,r,tF];by_cases l:j<y c;rw[qw l];have x:j<y k:=U;(have:(Go.Sort.putCells encStr 0 k.toArray g).toList[j]?=M (aw ⟨k[j].toArray⟩):=by rw[sK];unfold Go.Sort.putCells;rw[Array.getElem?_mapIdx,e j l];simp[x,encStr]);rw[this];simp[strs,x];rw[List.getElem?_take_eq_none U,mH (by simp[strs];omega)];show G (H a)<=((a.heap.modify v _)++B).size;simp;intro C O n;exact i C O<|λE=>n (by rw[E];rfl)
end
def BT:(prog.info? 9).map (λi=>(i.zero,i.size,i.bytes))=M (M<|aw ⟨#[]⟩,1,16):=aH
def Dz(a:cy af)(n:af):strs (a++[n])=strs a++[aw n]:=by simp[strs]
def CJ{db:R}{K:DK}{w:Z}(h:cJ w db K)(hn:y K.ah<=900000000000):cR bN 22 #[aJ db] w λan w'=>∃v' a,an=aN v'/\List.Perm a (K.ah.map dj.dA)/\fD w' (G<|H w) 9 1 v' (y a) (strs a)/\I aC w w':=by
 let⟨i0,Q,aa,ab,ac⟩:=cZ BT;have av:=aX h.S 0;have g:=ak h.l;go_in
 go_wp2_with(first
  |(at_range;refine oJ _ z _ 86 z 9 90 underlying86 K.nb _ z g ?_;intro w0 v P aU;have E:=ak v;have q:=ak P))
 go_frame
 go_loopw [3] (λo wr=>∃(al:cy dj)(a:cy af),(a++al.map dj.dA).Perm (K.ah.map dj.dA)/\fD wr (G<|H w) 9 1 o (y a) (strs a)/\cN o≠M (G<|H w)/\qf wr K.nb (G<|H w) (K.ah.map dj.nm) (al.map dj.nm)/\I aC w wr) (λ_ wr=>wr.rangeLeft K.nb<|G<|H w)
 exact⟨K.ah,[],py _,ct _ _ _ _,(by simp[cN]),E,I.eF q ar⟩
 .let⟨al,a,V,D,l,u,ht⟩:=hrel;have aD:y a<=900000000000:=zY V.length_eq;let⟨o,n,T⟩:=aM D;subst T;go_wp2_with(first
   |(at_next;refine oq _ z _ z K.nb (G (H w)) _ _ z u ?_ ?_))
  .intro c;obtain rfl:al=[]:=dV c;have b:=XW a D U;go_wp21;go_call b as an m⟨rfl,j,f,e,i⟩;clear b;go_wp2;go_ret;refine⟨_,j,z,?_,e,ht.aj i<|λk d=>bj (D.lt k d).1⟩;have:=V;simp only[gA,eu]at this;exact f.trans this
  .intro aV pk pv ad p C c t W ax;obtain⟨bc,ap,bd,rfl,rfl,B,rfl⟩:=zN C;simp only[dj.nm,lk,js]at B;obtain⟨rfl,rfl⟩:=B;have m:I (λk=>k=G (H w)) wr p:=gH t;have A:=m.aZ D (λk d O=>l<|by rw[d,O]);have x:=c.lt;let⟨F,r,j⟩:=eU c (ht.aj m ar) A;have:K.nb≠G (H w):=λan=>c.ne an.symm;have:K.nb<G (H w):=g.lt;clear C c t W m A;go_wp2_with(first
    |(at_builtin;go_loud(refine cq _ z (.tmp 14) (.tmp 16) 81 z (G (H w)) 9 i0 (.string ⟨#[]⟩) 1 16 underlying81 Q aa ab ac z cg (.slice o (y a) n) (y a) (strs a) z (bC j (.cells #[.string ap.dA] 9)) (X (G (H p)) 0) 1 1 [.string ap.dA] z z (pN _ _ _) (by simp[Value.oneCell']) U U (by have:=r.D;simp;omega) ?_;intro v2 w3 b i;obtain⟨bb,ba,rfl⟩:=aM b;have N:=ak b;have s:=ak i;clear b i)))
   have L:=ak (show qf w3 K.nb (G<|H w) (K.ah.map dj.nm) (bc.map dj.nm++bd.map dj.nm)from by
    have f:=ag s;have e:I (λk=>cN (am o (y a) n)=M k) p w3:=((I.bI (λk=>cN (am o (y a) n)=M k) p).aE _).aj (I.eF (S:=λk=>cN (am o (y a) n)=M k) f.dF (λk d=>J d)) (λk d=>J d);refine F.qR (e.A _ U (λO=>?_)) (e.A _ x (λO=>l O));have:=(j.lt _ O).1;omega)
   go_roundw
   .have f:=ag s;have e:I (λk=>cN (am o (y a) n)=M k) p w3:=((I.bI (λk=>cN (am o (y a) n)=M k) p).aE _).aj (I.eF (S:=λk=>cN (am o (y a) n)=M k) f.dF<|λk d=>J d)<|λk d=>J d;refine⟨bc++bd,a++[ap.dA],?_,?_,?_,?_,?_⟩
    .refine List.Perm.trans ?_ V;rw[cw];refine sJ _ ?_;grind[singleton_append,Perm.symm,perm_middle]
    .rw[Dz,ai];exact N
    .obtain ao|⟨bf,ao,hg⟩:=f.f
     .rw[ao];exact l
     .rw[ao];intro O;cases O;simp at hg;omega
    .rwa[bz]
    .exact r.aj e<|λk d=>bj (j.lt k d).1
   .rw[(ag L).oN,u.oN];simp
def MZ(w:Z)(t:cH):Prop:=t.cK<18446744073709551616/\∃h d b f g c a e,mQ w t.tb h t.cK d b f g c a e t.ks
def MZ.aA{w w':Z}{t:cH}(h:MZ w t)(m:I aC w w'):MZ w' t:=by
 let⟨p,o,e,c,k,n,d,a,g,j⟩:=h;exact⟨p,o,e,c,k,n,d,a,g,j.dU (m.A _ (az j.g) id)<|m.A _ j.lt.2 id⟩
def MZ.dA{t:cH}(h:MZ a t)(o:Pow a):cR bN 128 #[aJ t.tb] a λl w'=>l=aN (aw<|jf t.cK)/\gC (G<|H a) a w':=by
 let⟨m,k,e,c,i,j,d,b,g,n⟩:=h;grind[zA]
def Hn:(prog.info? 95).map (λi=>(i.zero,i.size,i.bytes))=M (M<|ef #[],0,0):=aH
def TR(a b c d:ae)(e f g h:dI):rW [(a,e),(b,f),(c,g),(d,h)]=(e++f++g++h).map cH.D:=by simp[rW]
def UD(a b c d:ae)(e f g h:dI):nB [(a,e),(b,f),(c,g),(d,h)]=y (e++f++g++h):=by simp[nB]
def rq(T a:dI):dI:=T.filter<|λt=>!(a.any<|λu=>u.cK==t.cK)
def SH{T T':dI}(h:b<y T):rq (T.take<|b+1) T'=rq (T.take b) T'++(if T'.any (λu=>u.cK==T[b].cK)then []else [T[b]]):=by
 unfold rq;rw[aG h,mA];cases hc:T'.any (λu=>u.cK==T[b].cK)<;>simp[hc]
def A8{T':dI}(t:cH):T'.any (λu=>u.cK==t.cK)=cz↔∃u∈T',aw (jf t.cK)=aw (jf u.cK):=by
 rw[nL];constructor;grind
 rintro⟨u,a,e⟩;refine⟨u,a,?_⟩;have:jf t.cK=jf u.cK:=dV e;rw[Np this];grind
def oa(s:SR)(T a:dI):cy af:=(if s.i then [gW s.l]else [])++(rq T a).map (λt=>jf t.cK)
def Lt(gd cm F ge n p q s:dI){v2 v3:ae}(h:cU a b o r)(hl:Fw a b 10 [(o.l0,gd),(o.l1,cm),(o.l2,F),(o.l3,ge)])(r0:Row a 1 d (y n) (n.map cH.D))(r1:Row a 1 w (y p) (p.map cH.D))(r2:Row a 1 v2 (y q) (q.map cH.D))(r3:Row a 1 v3 (y s) (s.map cH.D))(k0:∀r,cN d=M r->r<G (H a))(k1:∀r,cN w=M r->r<G (H a))(k2:∀r,cN v2=M r->r<G (H a))(k3:∀r,cN v3=M r->r<G (H a))(hT:∀D∈gd++cm++F++ge,MZ a D)(cp:∀D∈n++p++q++s,MZ a D)(hp:Pow a)(fk:o.l<18446744073709551616)(fs:y (gd++cm++F++ge)<=20000000000)(fu:y (n++p++q++s)<=20000000000):cR bN 204 #[aJ b,ef #[d,w,v2,v3]] a λcn w'=>∃v',cn=aN v'/\fD w' (G<|H a) 9 1 v' (y<|oa o (gd++cm++F++ge)<|n++p++q++s) (strs<|oa o (gd++cm++F++ge)<|n++p++q++s)/\I aC a w':=by
 have gx:=@tC bN;have gg:∀(ej:eN)(a:Z),(Op.unary .not<|aO ej).run bN a=.ok (aO<|!ej) a:=λ_ _=>rfl;let⟨i0,cx,eb,ec,ed⟩:=cZ BT;let⟨i1,fi,gc,hc,hd⟩:=cZ Hn;obtain⟨x0,c0,rfl⟩:=cG r0;obtain⟨x1,c1,rfl⟩:=cG r1;obtain⟨x2,c2,rfl⟩:=cG r2;obtain⟨x3,c3,rfl⟩:=cG r3;have fl:Fw (dw a<|aK #[am x0 (y n) c0,am x1 (y p) c1,am x2 (y q) c2,am x3 (y s) c3] 108) (G<|H a) 0 [(am x0 (y n) c0,n),(am x1 (y p) c1,p),(am x2 (y q) c2,q),(am x3 (y s) c3,s)]:=by have ac:I aC a (dw a<|aK #[am x0 (y n) c0,am x1 (y p) c1,am x2 (y q) c2,am x3 (y s) c3] 108):=(cI _ _);have dk:(dw a<|aK #[am x0 (y n) c0,am x1 (y p) c1,am x2 (y q) c2,am x3 (y s) c3] 108).heap[G<|H a]?=M (aK #[am x0 (y n) c0,am x1 (y p) c1,am x2 (y q) c2,am x3 (y s) c3] 108 (0,0)):=aQ _ z;refine⟨z,λaa hi=>?_,λaa hi=>?_,λaa hi=>?_,by rw[UD];omega⟩;have:aa=0\/aa=1\/aa=2\/aa=3:=aI;obtain rfl|rfl|rfl|rfl:=this<;>(rw[cE dk];rfl);have:aa=0\/aa=1\/aa=2\/aa=3:=aI;obtain rfl|rfl|rfl|rfl:=this;exact ac.bV r0 aI;exact ac.bV r1 aI;exact ac.bV r2 aI;exact ac.bV r3 aI;grind
 let⟨T,cr⟩:∃T,gd++cm++F++ge=T:=⟨_,rfl⟩;let⟨e,aU⟩:∃e,n++p++q++s=e:=⟨_,rfl⟩;have cM:∀bi,I aC a bi->cR bN 127 #[ee<|M<|X b 10] bi λcn w'=>∃v',cn=aN v'/\fD w' (G<|H bi) 235 1 v' (y T) (T.map cH.D)/\I aC bi w':=λbi g=>by have:=uz (w:=bi) (lb:=b) (lo:=10) _<|hl.aA g id<|λ_ _ _ _ F=>F;rw[TR,UD,cr]at this;exact this
 have bl:∀bi,I aC (dw a<|aK #[am x0 (y n) c0,am x1 (y p) c1,am x2 (y q) c2,am x3 (y s) c3] 108) bi->cR bN 127 #[aJ<|G<|H a] bi λcn w'=>∃v',cn=aN v'/\fD w' (G<|H bi) 235 1 v' (y e) (e.map cH.D)/\I aC bi w':=λbi g=>by have:=uz (w:=bi) (lb:=G<|H a) (lo:=0) _<|fl.aA g id<|λ_ _ _ _ F=>F;rw[TR,UD,aU]at this;exact this
 rw[cr]at hT fs|-;rw[aU]at cp fu|-;have bd:=ak cp;let⟨HB,HP,em⟩:=eU h hp cM;have ax:=ak bl;let⟨WB,cs⟩:∃WB,dw a (aK #[am x0 (y n) c0,am x1 (y p) c1,am x2 (y q) c2,am x3 (y s) c3] 108)=WB:=⟨_,rfl⟩;have bo:I aC a WB:=by rw[<-cs];exact(cI _ _)
 have co:=bo.A b (az h) id|>.trans HB;have eB:=cU.bW co 18 z;have gn:=cU.bW co 17 z;have fn:Pow WB:=HP.aA bo id;have cB:=AM o.l fk fn;have bh:=ak bo;rw[cs]at ax;let⟨lg,aV⟩:∃lg,o.i=lg:=⟨_,rfl⟩;have bv:=ak (show oa o T e=(if lg then [gW o.l]else [])++(rq T e).map (λD=>jf D.cK)by rw[<-aV];rfl);rw[aV]at eB;generalize o.l=eg at*;go_in
 cases lg;(case' false=>go_wp21;generalize ac:WB=W5;have ab:=ak (show I aC WB W5 by rw[<-ac];exact I.bI _ _);let⟨v5,u⟩:∃v5,v5=am dE 0 0:=⟨_,rfl⟩;let⟨c,f⟩:∃c:cy af,c=[]:=⟨_,rfl⟩;have m:=ak (show fD W5 (G<|H a) 9 1 v5 (y c) (strs c)by rw[u,f];exact ct _ _ _ _);have av:=ak (show oa o T e=c++(rq T e).map (λD=>jf D.cK)by rw[f];exact bv);(have fr:y c<=1:=by rw[f];simp);have cj:=ak u);(case' true=>go_wp21;go_call(ak cB)as cn w2⟨rfl,ff⟩;have ac:=ak<|I.p (S:=aC) ff;(go_wp2_with(at_builtin;refine cq _ z (.tmp 17) (.tmp 23) 81 z (G<|H a) 9 i0 (aw ⟨#[]⟩) 1 16 underlying81 cx eb ec ed z cg aF 0 [] z (ct _ _ _ _) (X (G<|H w2) 0) 1 1 [aw<|gW eg] z z (pN _ _ _) (by simp[Value.oneCell']) U U (by have:=bh.D;have:=ac.D;simp;omega) ?_;intro v3 W5 dk fL;let⟨x5,c5,u⟩:=aM dk;subst u;have m:=ak dk;have eA:=ak fL));have ab:=ak<|show I aC WB W5 from((ac.aE _).t<|I.eF (S:=aC) eA.dF<|λr l=>by cases l);let⟨v5,u⟩:∃v5,v5=am x5 1 c5:=⟨_,rfl⟩;let⟨c,f⟩:∃c:cy af,c=[gW eg]:=⟨_,rfl⟩;have m:=ak (show fD W5 (G<|H a) 9 1 v5 (y c) (strs c)by rw[u,f];exact ag m);have av:=ak (show oa o T e=c++(rq T e).map (λD=>jf D.cK)by rw[f];exact bv);(have fr:y c<=1:=by rw[f];simp);have cj:=ak u)
 all_goals
  have gE:=ab.D;have ha:=bh.D;go_call ax (dw W5<|.map #[] 0) (ab.aE _)as cn w6⟨v6,rfl,dn,bn⟩;let⟨x6,c6,fx⟩:=aM dn;subst fx;let⟨cd,et,bT,cb⟩:=jr ((mK.lX W5 .string).dU<|bn.A _ ar id) (bh.t<|(ab.aE<|.map #[] 0).aj bn cY) ((((I.bI aC W5).aE<|.map #[] 0).t bn).aZ m<|λ_ _ F=>F) dn;let⟨v,cT⟩:∃v,G (H W5)=v:=⟨_,rfl⟩;rw[cT]at cd;have gf:G (H a)<=v:=U;have en:=ak (show v<G (H<|dw W5<|.map #[] 0)by rw[<-cT];simp);go_wp21;go_loopw [28] (λaa wr=>∃ap:R,ap<=y e/\aa=ay ap/\mK wr v .string (λej=>∃D∈e.take ap,ej=aw (jf D.cK))/\I (λr=>r=v) w6 wr) (λaa _=>y e-(intOf aa).toNat)
  .exact⟨0,bQ _,z,cd.yL ar,I.bI _ _⟩
  .obtain⟨ap,hn,rfl,j,ao⟩:=hrel;have bp:I aC a wr:=et.aj ao aI;by_cases x:ap<y e
   .have Q:=ao.aZ cb<|λr l F=>gV ((cb.lt r l).1)<|ag en;let⟨b6,ga,bk⟩:∃b6,x6=M (X b6 0)/\bA wr (X b6 ap)=M e[ap].D:=by
     obtain⟨h2,h0⟩|⟨gr,fb,fd,h2,_⟩:=Q.2
     .omega
     .cases h2;refine⟨gr,z,?_⟩;have:=ri Q ap e[ap].D (by rw[fO,bF x];rfl);rwa[dS,ez]at this
    subst ga;have ad:=(bd e[ap]<|aB x).aA bp|>.dA (HP.aA bp id);have bg:=ak (show∀ej,(∃D∈e.take (ap+1),ej=aw (jf D.cK))↔(∃D∈e.take ap,ej=aw (jf D.cK))\/ej=aw (jf e[ap].cK)fromλej=>by
     rw[aG x];grind)
    have A:=j.lt;have K:=ak j;have ey:=ak ao;have e1:(ap:Y)<(y e:Y):=U;unfold cH.D at bk;generalize jf e[ap].cK=k at*;generalize e[ap].tb=j8 at*;go_wp21;go_call ad as cn w7⟨rfl,cv⟩;have eq:=ak<|K.dU<|cv.block v A;have ev:=ak<|ey.t<|I.p (S:=aC) cv;go_wp2_with(at_mapUpdate;refine wG _ z _ _ _ 247 z 9 95 underlying247 .string underlying9 v _ z eq (aw k) trivial z z ?_;intro w8 fv fg;have er:=ak fv;have ek:=ak fg)
    go_roundw
    .exact⟨ap+1,x,dM,er.yL bg,ev.aj (gH ek)<|λ_ F=>J F⟩
    .simp[intOf];omega
   .have al:ap=y e:=U;rw[al,cQ]at j;have e1:¬(ap:Y)<(y e:Y):=U;have A:=j.lt;let⟨K,ce,aD⟩:=eU j bp<|ao.aZ bT<|λr l F=>bP<|(m.lt r l).2;go_wp21;go_call em wr ce as cn w9⟨v9,rfl,dr,an⟩;obtain⟨x9,c9,fz⟩:=aM dr;subst fz;let⟨es,cc,ca,ex,bc,eo⟩:=nT (K.dU<|an.A v A id) dr (an.aZ aD<|λ_ _ F=>F) (ce.t an) (show∀r,cN v5=M r->G (H a)<=r/\r<G (H wr)/\r≠v fromλr l=>⟨(m.lt r l).1,(aD.lt r l).2,bP<|(m.lt r l).2⟩)<|show v<G (H wr)/\G (H wr)<=G (H w9)from⟨A,an.D⟩;go_wp21;go_loopw [5,42] (λo aa b=>∃E:R,E<=y T/\aa=ay E/\fD b (G<|H a) 9 1 o (y<|c++(rq (T.take E) e).map (λD=>jf D.cK)) (strs<|c++(rq (T.take E) e).map (λD=>jf D.cK))/\fm w9 b v5 o) (λ_ aa _=>y T-(intOf aa).toNat)
    .refine⟨0,bQ _,z,?_,?_⟩
     .rw[<-ag cj];have:c++(rq (T.take 0) e).map (λD=>jf D.cK)=c:=by simp[rq]
      rw[this];exact ca
     grind[ag,fm.bI]
    .obtain⟨E,hm,rfl,ho,bq⟩:=hrel;let⟨ox,oc,dv⟩:=aM ho;have B:I (λr=>cN v5=M r) w9 wr:=I.eF bq.dF<|λr l=>J l;have C:I aC a wr:=ex.aj B<|λr l=>bj (bc r l).1;have t:=es.dU<|B.A v (bP<|ag eo)<|λF=>(bc v F).2.2 z;have ds:∀r,cN u5=M r->r≠v:=λr l F=>by
      grind[fm.f,ag]
     by_cases i:E<y T
     .have Q:=B.aZ cc<|λr l F=>gV ((cc.lt r l).1)<|(bc r F).2.1;let⟨b9,gb,bk⟩:∃b9,x9=M (X b9 0)/\bA wr (X b9 E)=M T[E].D:=by
       obtain⟨h2,h0⟩|⟨gr,fb,fd,h2,_⟩:=Q.2
       .omega
       .cases h2;refine⟨gr,z,?_⟩;have:=ri Q E T[E].D (by rw[fO,bF i];rfl);rwa[dS,ez]at this
      subst gb;have ba:=HP.aA C id;have P:=((ak hT) T[E]<|aB i).aA C;have ad:=P.dA ba;have db:=λbi(g:I aC wr bi)=>(P.aA g).dA<|ba.aA g id;have bg:=ak<|SH (T':=e) i;have N:=A8 (T':=e) T[E];have e1:(E:Y)<(y T:Y):=U;have bm:=t.lt;have gt:y (c++(rq (T.take E) e).map (λD=>jf D.cK))<=30000000000:=by
       have:y (rq (T.take E) e)<=y (T.take E):=gM _ _;rw[dX]at this;rw[ai,cS];omega
      let⟨bf,HO,cl,ch,gj,bx⟩:=nT t ho bq C ds db;unfold cH.D at bk;have el:=ak (show∀cm,e.any (λu=>u.cK==T[E].cK)=cm->(c++(rq (T.take<|E+1) e).map (λD=>jf D.cK))=(c++(rq (T.take E) e).map (λD=>jf D.cK))++(if cm then []else [jf T[E].cK])fromλcm hb=>by
       rw[ag bg,hb,bz,cw];cases cm<;>rfl)
      let⟨gi,hr⟩:∃gi,e.any (λu=>u.cK==T[E].cK)=gi:=⟨_,rfl⟩;have fe:=el gi hr;rw[hr]at N;have bt:=ak fe;generalize gs:c++(rq (T.take E) e).map (λD=>jf D.cK)=Lm at*;have bs:=ak N;clear N;generalize dc:jf T[E].cK=k at*;clear dc;generalize T[E].tb=j8 at*;subst dv;go_wp21;go_call ad as cn ei⟨rfl,O⟩;have V:I aC wr ei:=I.p O;have bb:=bf.dU<|O.block v bm;have gv:=DG underlying247 underlying9 fi gc bb (aw k) trivial gi bs;have bE:=ak<|V.aZ HO<|λ_ _ F=>F;have L:=ak V;clear bb V O ad;cases gi with
      |true=>
       go_wp2;go_roundw
       .refine⟨E+1,i,dM,?_,?_⟩
        .rw[ag bt];simp only[mS,eu];exact bC bE _
        .have g:=(L.aE<|aK #[] 95);refine cl.aj ⟨⟨g.os,g.l,g.f,g.D,λaa hi _=>g.A aa hi id⟩,J z⟩
       .simp[intOf];omega
      |false=>
       go_wp21;go_call bx (dw ei<|aK #[] 95) (L.aE _)as cn br⟨rfl,cu⟩;have W:I aC wr br:=(L.aE<|aK #[] 95).t<|I.p (S:=aC) cu;have bL:=ak<|W.aZ HO<|λ_ _ F=>F;go_wp2_with(at_builtin;refine cq _ z (.tmp 55) (.tmp 58) 81 z (G<|H a) 9 i0 (aw ⟨#[]⟩) 1 16 underlying81 cx eb ec ed z cg (am ox (y Lm) oc) (y Lm) (strs Lm) z (bC bL<|aK #[aw k] 9) (X (G<|H br) 0) 1 1 [aw k] z z (pN _ _ _) (by simp[Value.oneCell']) U U (by have:=ch.D;have:=W.D;simp;omega) ?_;intro he hf dd ea;let⟨hg,gk,dT⟩:=aM dd;subst dT;have ck:=ak ea)
       go_roundw;case rel=>
        refine⟨E+1,i,dM,?_,?_⟩
        .rw[ag bt];simp only[li,mz];rwa[Dz,ai]
        .have g:=W;have h1:fm wr br (am ox (y Lm) oc) (am ox (y Lm) oc):=⟨⟨g.os,g.l,g.f,g.D,λaa hi _=>g.A aa hi id⟩,J z⟩;exact cl.aj<|h1.aj<|fm.aE _ ck
       case measure=>simp[intOf];omega
     .have al:E=y T:=U;rw[al,cQ,<-ag av]at ho;have:¬(E:Y)<(y T:Y):=U;obtain⟨oy,od,dx⟩:=aM ho;clear bq B t ds al dv;subst dx;go_wp2;go_ret;exact⟨_,z,ho,C⟩
def zbr(t:cH):ae:=ef #[aw<|jf t.cK,aw<|io t.ks,aw<|iQ t.ks,ay (nC t.ks:R)]
def NX{c:Func}{p:Tmp}(h:c.results=#[.cell p 120])(a:Array ae)(w:Z)(g:R)(e f i:af)(j:Y)(t:TypeId)(d:R×R)(m:a.getD p jm=aJ g)(k:w.heap[g]?=M (aK #[aw e,aw f,aw i,ay j] t d)):(results c a).run bN w=.ok (ef #[aw e,aw f,aw i,ay j]) w:=by
 have b:a[p]?.getD jm=aJ g:=dV m;have l:=kP (P:=bN) w g t 120 #[aw e,aw f,aw i,ay j] d _ k underlying120 z aH;simp[results,h,b,asAddr,l]
def Si{t:cH}(h:MZ a t):Qw a t:=by
 let⟨_,j,e,c,g,i,d,b,f,k⟩:=h;exact⟨j,_,e,c,g,i,d,b,f,k⟩
def KH{t:cH}(h:MZ a t)(C:Pow a)(o:2<G (H a))(hc:nC t.ks<=20000000000)(hz:(io t.ks).size<=1000/\(iQ t.ks).size<=1000):cR bN 136 #[aJ t.tb] a λs w'=>s=aN (zbr t)/\I aC a w':=by
 let⟨W,B⟩:∃W,dw a (aK #[aw ⟨#[]⟩,aw ⟨#[]⟩,aw ⟨#[]⟩,ay 0] 120)=W:=⟨_,rfl⟩;have f:I aC a W:=B▸cI _ _;have b:W.heap[G<|H a]?=M (aK #[aw ⟨#[]⟩,aw ⟨#[]⟩,aw ⟨#[]⟩,ay 0] 120 (0,0)):=B▸aQ _ z;have d:=ak (show∀c,I aC W c->MZ c t/\Pow c/\I aC a c/\c.heap[G<|H a]?=M (aK #[aw ⟨#[]⟩,aw ⟨#[]⟩,aw ⟨#[]⟩,ay 0] 120 (0,0))fromλc e=>⟨h.aA<|f.t e,C.dU<|(f.t e).A _ o id,f.t e,(e.A _ (az b) id).trans b⟩);have m:=λc=>rA (io t.ks) c U;have n:=λc=>rA (iQ t.ks) c U;clear h C o f b;go_in
 go_wp21;go_call(d W<|I.bI _ W).1.dA (d W<|I.bI _ W).2.1 as s K⟨rfl,g⟩;have D:=I.p (S:=aC) g;clear g;go_wp21;apply(Si (d K D).1).eJ.mono;rintro s u⟨rfl,aa⟩;subst u;go_wp21;go_call m K as s u⟨rfl,j⟩;have E:=D.t<|I.p (S:=aC) j;clear j;go_wp21;apply(Si (d u E).1).eP.mono;rintro s L⟨rfl,q,p⟩;have t3:I aC W L:=p▸E.t ((I.bI aC u).df z);clear p;go_wp21;go_call n L as s w4⟨rfl,k⟩;have F:=t3.t<|I.p (S:=aC) k;clear k;go_wp21;go_call Cq t (Si (d w4 F).1) hc as s v⟨rfl,l⟩;have A:=F.t<|I.p (S:=aC) l;have b:=(d v A).2.2.2;have f:=(d v A).2.2.1;clear l A;have T:=aX b 0;have V:=aX b 1;have g2:=aX b 2;have g3:=aX b 3;have N:=cV (i:=0) b;have O:=cV (i:=1) b;have P:=cV (i:=2) b;have Q:=cV (i:=3) b;let⟨r,e⟩:∃r,cP (cP (cP (cP v (X (G<|H a) 0)<|aw<|jf t.cK) (X (G<|H a) 1)<|aw<|io t.ks) (X (G<|H a) 2)<|aw<|iQ t.ks) (X (G<|H a) 3) (ay (nC t.ks:R))=r:=⟨_,rfl⟩;have w:=ak (show r.heap[G<|H a]?=M (aK #[aw<|jf t.cK,aw<|io t.ks,aw<|iQ t.ks,ay (nC t.ks:R)] 120 (0,0))by rw[<-e];exact DU b);have x:=ak (show I aC a r by rw[<-e];exact f.aj ((((iP (G<|H a) v).aL _ _ _<|J z).aL _ _ _<|J z).aL _ _ _<|J z)<|λk s=>bj (by have e':k=G (H a):=s;omega));clear b;go_wp2;clear e T V g2 g3 N O P Q;exact ci (NX z _ _ (G<|H a) _ _ _ _ _ _ z w) z ⟨z,x⟩
def cH.p(t:cH):iE:=[aw<|jf t.cK,aw<|io t.ks,aw<|iQ t.ks,ay (nC t.ks:R)]
def rT(a:dI):iE:=a.flatMap cH.p
def Yd(a:dI)(t:cH):rT (a++[t])=rT a++t.p:=by simp[rT]
def L4:(prog.info? 120).map (λi=>(i.zero,i.size,i.bytes))=M (M<|ef #[aw ⟨#[]⟩,aw ⟨#[]⟩,aw ⟨#[]⟩,ay 0],4,56):=aH
def Zl:(prog.info? 118).map (λi=>(i.zero,i.size,i.bytes))=M (M aF,1,24):=aH
def zcr(w:Z)(t:cH):Prop:=MZ w t/\nC t.ks<=20000000000/\(io t.ks).size<=1000/\(iQ t.ks).size<=1000
def Cd(w:Z)(b:R)(a:cy (ae×dI))(c:iE):Prop:=∀(i:R)(u:ae),c[i]?=M u->∃p:ae×dI,a[i]?=M p/\fD w b 120 4 u (y p.2) (rT p.2)
def Cd.Gh{c:cy (ae×dI)}{p:ae×dI}{u:ae}(h:Cd a b c Q)(g:c[y Q]?=M p)(f:fD a b 120 4 u (y p.2) (rT p.2)):Cd a b c (Q++[u]):=λi v e=>by
 obtain d|d|d:=mT i<|y Q;exact h i v (by rwa[ir d]at e);grind
 grind
def D9{a:cy (ae×dI)}(h:b<y a):y a[b].2<=nB a:=by
 have:=AE a<|b+1;rw[aG h,Dy]at this;omega
def Cd.aA{w w':Z}{a:cy (ae×dI)}{S:fB}(h:Cd w c a Q)(k:I S w w')(o:∀n,S n->∃d t e,w.heap[n]?=M (.cells d t e)/\t≠120):Cd w' c a Q:=λi u m=>by
 let⟨q,j,g⟩:=h i u m;refine⟨q,j,k.aZ g<|λn p r=>?_⟩;grind[ud]
def ON(m:cy (ae×dI))(h:Fw a b c m)(hN:∀cl∈m,∀ch∈cl.2,zcr a ch)(hp:Pow a)(ao:2<G (H a)):cR bN 83 #[ee<|M<|X b c] a λcj w'=>∃ck r,cj=aN ck/\fD w' (G<|H a) 118 1 ck 4 r/\y r=4/\Cd w' (G<|H a) m r/\I aC a w':=by
 let⟨i0,ab,aD,aU,aV⟩:=cZ L4;let⟨i1,ac,ap,av,ax⟩:=cZ Zl;have bL:=h.dL;have br:=h.f;have bo:=h.lt;have HC:=ak h.u;have HR:=ak h.bV;have P:=ak h.l;let⟨HN,HP,Q⟩:=eU hN hp ao;clear h hN hp ao;go_in
 go_wp2_with(first
  |(at_make;go_loud(refine ke _ z _ _ 114 z (G (H a)) 118 i1 aF 1 underlying114 ac ap av _ _ _ 4 z z U (by rw[ax];omega) (by unfold maxLen;omega) (aq _) ?_;intro w4 C w;have bi:=ak C;have bc:=ak w;clear C w)))
 go_loopw [3,12] (λbT bb wr=>∃s:R,∃r:iE,s<=4/\bb=ay s/\y r=s/\fD wr (G<|H a) 118 1 bT s r/\Cd wr (G<|H a) m r/\I aC a wr) (λ_ bb _=>4-(intOf bb).toNat)
 exact⟨0,[],U,z,z,bi,λbb ca a=>by simp at a,I.eF (S:=aC) bc ar⟩
 .rename Z=>V
  obtain⟨s,r,hn,rfl,N,i,L,l⟩:=hrel;let⟨cm,ba,ho⟩:=aM i;subst ho;by_cases bp:s<4
  .have A:s<y m:=U;have bq:=l.u (HC s A) id bo;let⟨g9,m9,hy⟩:=cG<|HR s A;have k:=l.bV (HR s A)<|λbx K=>⟨id,P s A bx K⟩;have ad:m[s]∈m:=aB A;have HT:=ak<|λch a=>(HN _ ad ch a);have bg:=ak<|show m[s]?=M m[s]from bF A;have bt:y m[s].2<=20000000000:=aR (D9 A) br;let⟨d,hg⟩:∃d,m[s].2=d:=⟨_,rfl⟩;rw[hg]at hy k HT bt;have bf:=ak hg;rw[hy]at bq k;clear hg;have cc:=i.lt;have HU:=ak i;have bl:=ak L;have T:=ak l;have bs:=l.D;clear i L l;go_wp2_with(first
    |(at_make;go_loud(refine ke _ z _ _ 118 z (G (H V)) 120 i0 (.agg #[.string ⟨#[]⟩,.string ⟨#[]⟩,.string ⟨#[]⟩,.int .i64 0]) 4 underlying118 ab aD aU _ _ _ (y d) z z U (by rw[aV];omega) (by unfold maxLen;omega) (aq _) ?_;intro w5 D x;have bk:=ak D;have bd:=ak x;clear D x)))
   go_loopw [6,22] (λbT bb a=>∃q:R,q<=y d/\bb=ay q/\fD a (G<|H V) 120 4 bT q (rT<|d.take q)/\I aC V a) (λ_ bb _=>y d-(intOf bb).toNat)
   .exact⟨0,bQ _,z,bk,I.eF (S:=aC) bd ar⟩
   .obtain⟨q,hm,rfl,e,f⟩:=hrel;let⟨O,c2,aa⟩:=aM e;have ce:=f.D;by_cases j:q<y d
    .let⟨bE,g,u,bv,cb,n⟩:∃bE g u,am g9 (y d) m9=bX bE g (y d) u/\y d<=u/\∀j ca,(d.map cH.D)[j]?=M ca->bA V (X bE<|g+j)=M ca:=by
      obtain⟨_,⟨q1,q2⟩|⟨bE,g,u,q1,q2,q3⟩⟩:=k
      .omega
      grind
     cases bv;have hb:=P s A bE (by rw[hy];rfl);have an:=n q _ (by rw[fO,bF j];rfl);have hp:=f.u an id U;let⟨B,W,hf,hl⟩:=HT _<|aB j;have hT:I aC a wr:=T.t f;have o:=KH (B.aA hT) (HP.dU<|hT.A _ Q id) (au Q hT.D) W ⟨hf,hl⟩;have bm:=ak (show rT (d.take<|q+1)=rT (d.take q)++[aw<|jf d[q].cK,aw<|io d[q].ks,aw<|iQ d[q].ks,ay (nC d[q].ks:R)]by rw[aG j,Yd];rfl);unfold cH.D at hp;unfold zbr at o;generalize jf d[q].cK=x0 at*;generalize io d[q].ks=x1 at*;generalize iQ d[q].ks=x3 at*;generalize nC d[q].ks=x4 at*;generalize d[q].tb=j8 at*;let⟨HO,F⟩:Hid _/\Hid _:=⟨ak e,ak f⟩;have al:=e.lt;clear e f B W hf hl hT n an k;subst aa;go_wp21;go_call o as cj w1⟨rfl,v⟩;have bh:=ak<|v.aZ HO<|λ_ _ ba=>ba;have cd:=v.D;have bn:=ak v;clear v o;go_wp2_with(first
      |(at_builtin;go_loud(refine cq _ z (.tmp 26) (.tmp 29) 118 z (G (H V)) 120 i0 (.agg #[.string ⟨#[]⟩,.string ⟨#[]⟩,.string ⟨#[]⟩,.int .i64 0]) 4 56 underlying118 ab aD aU aV z cg (.slice O q c2) q (rT (d.take q)) z (bC bh _) (X (G (H w1)) 0) 1 1 [.string x0,.string x1,.string x3,.int .i64 (x4:R)] z z (Al _ _ _ _ _ z) (by simp[Value.oneCell']) U U dW ?_;intro o2 w2 e p;have E:=ak e;have t:=ak p;clear e p)))
     go_roundw
     .refine⟨q+1,j,dM,by rw[ag bm];exact E,?_⟩;exact((F.t bn).aE _).aj (I.fU t)<|λbx K=>bj (al bx K).1
     .simp[intOf];omega
    .have o:q=y d:=U;subst o;rw[cQ]at e;have n:=f.aZ HU<|λ_ _ ba=>ba;have u:=bl.aA f<|λ_ ba=>ba.elim;let⟨HO,B,W,F⟩:=jr n e u f;have g:=n.lt;clear e f n u;subst aa;go_wp2_with(first
      |(at_builtin;go_loud(refine cq _ z (.tmp 32) (.tmp 34) 114 z (G (H a)) 118 i1 aF 1 24 underlying114 ac ap av ax z cg (.slice cm s ba) s r z (bC HO _) (X (G (H wr)) 0) 1 1 [.slice O (y d) c2] z z (pN _ _ _) (by simp[Value.oneCell']) U U dW ?_;intro o2 w2 e p;have E:=ak e;have t:=ak p;clear e p)))
     go_roundw
     .have h1:=(W.Gh (u:=am O (y d) c2) (by rw[N];exact bg) (by rw[ag bf];exact fh B bs)).aA (cI (o:=aK #[am O (y d) c2] 118) aC wr)<|λ_ ba=>ba.elim;refine⟨s+1,r++[am O (y d) c2],bp,dM,by simp[N],E,h1.aA (I.fU t)<|λbx K=>?_,((T.t F).aE _).aj (I.fU t)<|λbx K=>bj (g bx K).1⟩;let⟨al,v⟩:=fZ (bC HO<|aK #[am O (y d) c2] 118) K;grind
     .simp[intOf];omega
  .have d:s=4:=U;subst d;go_wp2;go_ret;exact⟨_,r,z,i,N,L,l⟩
def Py{b:Fs}(h:N.Perm b):BW N=BW b:=(h.map _).sum_nat
def PX(h:cJ a b x)(F:((vw x.ah).map (·.1)).Nodup):cR bN 9 #[.pointer<|M ⟨b,0,dE⟩] a λcl w'=>∃d K',cl=.returned (.pointer<|M ⟨d,0,dE⟩)/\cJ w' d K'/\(vw K'.ah).Perm (vw x.ah)/\K'.l=[]/\(∀k,K'.j d k->G (H a)<=k)/\I (λ_=>False) a w'/\K'.fx=⟨x.fx.d,0,0,0,0,x.fx.l⟩/\(K'.sm=K'.ah.map dj.nm/\K'.qN=[])/\∀f∈K'.ah,f.D=y f.bB:=by
 have ap:=h.d;have aa:=h.v;have ey:bA a ⟨b,0,dE⟩=M (.map<|M x.nb):=by rw[cE h.S];rfl
 have eA:bA a ⟨b,3,dE⟩=M (.int .i64 x.fx.d):=by rw[cE h.S];rfl
 let⟨HD,HB,HN⟩:=eU h (λf a=>h.dL a:∀f∈x.ah,y f.bB<=1099511627776) F;go_in
 go_wp21;go_call(zO a x.fx.d x.fx.l aa)as cl w1⟨rfl,t,cu⟩;have ax:I (λ_=>False) a w1:=I.p cu;have al:=(ag HD).aA ax<|λ_ _=>id;have el:bA w1 ⟨b,0,dE⟩=M (.map<|M x.nb):=by rw[cE al.S];rfl
 let⟨d,bx⟩:∃d,G (H a)+2=d:=⟨_,rfl⟩;rw[bx]at t|-;let⟨C,s⟩:∃C,vz (G<|H a) x.fx.d x.fx.l=C:=⟨_,rfl⟩;rw[s]at t;have ad:=ak (show C.fx=⟨x.fx.d,0,0,0,0,x.fx.l⟩/\(C.sm=[]/\C.qN=[])by rw[<-s];exact⟨z,z,z⟩);have bT:∀k,C.j d k->G (H a)<=k:=by intro k n;rw[<-s,<-bx]at n;obtain j|j|j|j|⟨fl,hx,j⟩|⟨ex,hg,j⟩:=n;omega;have:k=G (H a):=j;omega;have:k=G (H a)+1:=j;omega;cases j;cases hx;cases hg
 let⟨bm,er,O,cp,bg,cn,ac⟩:=zX al.l al t ax bT (by rw[<-s];rfl:C.l=[]) (by rw[<-s];rfl:C.ah=[]);have fi:=ax.D
 go_wp2_with(first
  |(at_range;apply oJ _ z _ 86 z 9 90 underlying86 x.nb _ z (ag bm);intro w0 cb cT fe;have bh:=ak cb;have P:=ak cT))
 go_frame
 let⟨N,dx⟩:∃N,G (H w1)=N:=⟨_,rfl⟩;rw[dx]at bh|-;have em:G (H a)<=N:=U;let⟨ba,co,bf⟩:=eU ((ag O).aA (I.eF (S:=λ_=>False) (ag P) ar)<|λ_ _=>id) ((ag cp).t<|I.eF (S:=λ_=>False) (ag P) ar) (show∀k,C.j d k->G (H a)<=k/\k≠N fromλk n=>⟨(ag bg) k n,bP<|(ag O).lt k n⟩);go_loopw [4] (λ_ wr=>∃(ei:cy dj)(K':DK),(vw K'.ah++vw ei).Perm (vw x.ah)/\K'.l=[]/\cJ wr d K'/\(∀k,K'.j d k->G (H a)<=k/\k≠N)/\qf wr x.nb N (x.ah.map dj.nm) (ei.map dj.nm)/\(∀f∈ei,f∈x.ah)/\I (λ_=>False) a wr/\K'.fx=⟨x.fx.d,0,0,0,0,x.fx.l⟩/\(K'.sm=K'.ah.map dj.nm/\K'.qN=[])/\∀f∈K'.ah,f.D=y f.bB) (λ_ wr=>wr.rangeLeft x.nb N)
 refine⟨x.ah,C,?_,ag cn,ag ba,ag bf,ag bh,λ_ j=>j,ag co,(ag ad).1,⟨by rw[(ag ad).2.1,ag ac];rfl,(ag ad).2.2⟩,by rw[ag ac];simp⟩;rw[ag ac];exact py _
 .let⟨ei,K',hp,hm,cx,cM,dd,hL,ht,hx⟩:=hrel;have HX:=ak hx;let⟨bl,HT,HP,bb,g,HL,HM⟩:=zX dd ht hp cx cM hL hm;go_wp2_with(first
   |(at_next;refine oq _ z _ z x.nb N _ _ z (ag bl) ?_ ?_))
  .intro c;obtain rfl:ei=[]:=dV c;go_wp2;go_ret;refine⟨d,z,K',ag bb,?_,ag HM,λk n=>((ag g) k n).1,ag HT,ag HX⟩;have:=ag HP;simpa[vw]using this
  .intro fk pk pv en l eb cc db ff eB;obtain⟨eo,f,eq,rfl,rfl,cj,rfl⟩:=zN eb;simp only[dj.nm,lk,js]at cj;obtain⟨rfl,rfl⟩:=cj;have ck:I (λk=>k=N) wr l:=gH db;have ab:I (λ_=>False) a l:=(ag HT).aj ck<|λfl hx=>bj U;have u:=(ag bb).aA ck<|λk n cl=>((ag g) k n).2 cl;have bL:f∈x.ah:=(ag HL) f ar;have e:=((ag HD).ah f bL).aA ab id<|λ_ _ j=>j;have bE:=Ei (v:=f.A) (bs:=f.bB) (w:=l.drew) (e.2.1.bB.df z) ((ag HB) f bL)<|λk n=>((aS e.2.1 k n).2:k<G (H l));have dr:=az e.1;have k0:bA l.drew ⟨d,0,dE⟩=M (.map<|M K'.nb):=by rw[cL,cE u.S];rfl
   have kd:bA l.drew ⟨f.l,0,dE⟩=M f.A:=by rw[cL,cE e.1];rfl
   let⟨ek,ej,cB⟩:=aM e.2.1;have Q:=az u.S;let⟨c,r,q,bd⟩:=jr u ab cc e;rw[cB]at kd bE;go_wp21;rename_i QQ KK cs;refine cX (λA=>bA A ⟨d,0,dE⟩=M (.map<|M K'.nb)/\bA A ⟨f.l,0,dE⟩=M (.slice ek (y f.bB) ej)) 17 aH ?_;have bt:=And.intro k0 kd;refine dH 0 ?_;iterate 9 (refine zq (v:=?_) bt z aH (λ_ _ _ h=>h) (J ⟨by rfl,?_⟩) ?_;rotate_left;(focus(rintro A⟨z0,z1⟩;go_simp;try with_reducible rfl));try simp only[ig,jZ,dC,eY,eO])
   apply eS;refine dH 10 ?_;iterate 5 (refine zq (v:=?_) bt z aH (λ_ _ _ h=>h) (J ⟨by rfl,?_⟩) ?_;rotate_left;(focus(rintro A⟨z0,z1⟩;go_simp;try with_reducible rfl));try simp only[ig,jZ,dC,eY,eO])
   apply eS;refine aW 9 ?_;intro K9 cr;go_simp;go_call bE as cl m⟨v3,rfl,ch,cv⟩;let⟨x3,c3,ec⟩:=aM ch;subst ec;have L:I (λ_=>False) l m:=(cf (λ_=>False) l).t<|I.p (S:=λ_=>False) cv;have D:bA m ⟨d,0,dE⟩=M (.map<|M K'.nb)/\bA m ⟨f.l,0,dE⟩=M (.slice ek (y f.bB) ej):=⟨L.u (by rw[cL]at k0;exact k0) id Q,L.u (by rw[cL]at kd;exact kd) id dr⟩;refine cr _ _ (λ_=>D) ?_;try simp only[ig,dC,eY,eO]
   refine mW (i:=15) (v:=?_) z z aH aH aH aH (λ_ _ _ h=>h) (J ⟨by rfl,?_⟩) D ?_;rotate_left
   .rintro A⟨z0,z1⟩;go_simp;try with_reducible rfl
   try simp only[ig,dC,eY,eO]
   refine aW 16 ?_;intro et bq;go_simp;have dT:=L.D;refine bq _ _ (λ_=>⟨by rw[gP U];exact D.1,by rw[gP U];exact D.2⟩) ?_;try simp only[ig,dC,eY,eO]
   let⟨W4,E⟩:∃W4,dw m (.cells #[.slice x3 (y f.bB) c3,.int .i64<|y f.bB] 93)=W4:=⟨_,rfl⟩;rw[E];have aD:I (λ_=>False) l W4:=E▸L.aE _;have ce:W4.heap[G<|H m]?=M (.cells #[.slice x3 (y f.bB) c3,.int .i64<|y f.bB] 93 (0,0)):=E▸aQ _ z;have K:fD W4 (G<|H l.drew) 5 1 (.slice x3 (y f.bB) c3) (y f.bB) (f.bB.map<|Value.int .u8):=E▸bC ch _;refine aW 17 ?_;intro ev br;try simp only[dl,cF,cO]
   apply CD (.tmp 24) (.tmp 25) (.tmp 37) 86 z 9 90 underlying86 underlying9 K'.nb _ z ((ag c).l.aA aD id) f.dA (.pointer<|M ⟨G<|H m,0,dE⟩) z z;intro B ao ca ea;apply br _ _ wW;refine dG aH ?_ _;show KK _ _;apply cs;have V:f.dA∉K'.ah.map dj.dA:=by
    have F:=((ag HP).map<|λ(fl:af×eD)=>fl.1).nodup_iff.2<|ag HN;rw[bz,rM]at F;intro hc;refine F.2.2 f.dA ?_ f.dA ?_ z
    .simpa[vw]using hc
    .simp[vw]
   have w:=Pv V;rw[BF w]at ao;have aU:I (λk=>k=K'.nb) l B:=(aD.aT (T:=λk=>k=K'.nb) cY).aj (gH ca)<|λ_ j=>J j;have:d≠K'.sb:=tr (ag c).D (ag c).S;have cd:B.heap[d]?=l.heap[d]?:=aU.A d Q (tr (ag c).l (ag c).S:d≠K'.nb);have av:iO B K'.sb K'.sm:=(ag c).D.aA aU<|λcl=>(ag c).ne cl.symm;let⟨j0,dk,dn,fb,fd⟩:=cZ rp;let⟨eg,cm,bk,ed,bn⟩:=nZ aD (Pt (v:=.pointer<|M ⟨G<|H m,0,dE⟩) w) w V<|And.intro dT ea;go_wp21;have bv:=And.intro (by rw[cL,cE<|cd.trans (ag c).S];rfl:bA B.drew ⟨d,0,dE⟩=M (.map<|M K'.nb)) (And.intro (by rw[cL,cE<|cd.trans (ag c).S];rfl:bA B.drew ⟨d,1,dE⟩=M (.map<|M K'.sb)) (ao.aA (cf (λ_=>False) B) id:iO B.drew K'.nb (K'.ah.map dj.nm++[(f.dA,.pointer<|M ⟨G<|H m,0,dE⟩)])));refine cX (λA=>bA A ⟨d,0,dE⟩=M (.map<|M K'.nb)/\bA A ⟨d,1,dE⟩=M (.map<|M K'.sb)/\iO A K'.nb (K'.ah.map dj.nm++[(f.dA,.pointer<|M ⟨G<|H m,0,dE⟩)])) 11 aH ?_;apply dH 0;iterate 10 (refine zq (v:=?_) bv z aH (λ_ _ _ h=>h) (J ⟨by rfl,?_⟩) ?_;rotate_left;(focus(rintro A⟨z0,z1,z2⟩;go_simp;try rfl));simp only[ig,jZ,dC,eY,eO,dl,cF,cO])
   apply eS;refine mW (i:=10) (v:=.pointer<|M ⟨G<|H m,0,dE⟩) z z aH aH aH aH (λ_ _ _ h=>h) (J ⟨by rfl,?_⟩) bv ?_
   .rintro A⟨z0,z1,z2⟩;have an:=qZ underlying86 underlying9 dk dn z2 f.dA;rw[ag cm]at an;simp only[ld]at an;go_simp;try with_reducible rfl
   simp only[ig,dC,eY,eO,dl,cF,cO];refine aW 11 ?_;intro es bp;try simp only[dl,cF,cO]
   apply CD (.tmp 41) (.tmp 42) (.tmp 48) 86 z 9 90 underlying86 underlying9 K'.sb _ z (av.aA (cf (λ_=>False) B) id:iO B.drew K'.sb K'.sm) f.dA (.pointer<|M ⟨G<|H m,0,dE⟩) z z;intro w6 ds dc fg;apply bp _ _ wW;refine dG aH ?_ _;have aV:I (λk=>k=K'.sb) B w6:=(cf (λk=>k=K'.sb) B).aj (gH dc)<|λ_ j=>J j;have o:I (λk=>k=K'.nb\/k=K'.sb) l w6:=(aU.aT (T:=λk=>k=K'.nb\/k=K'.sb) ar).aj aV ar;have W:I (λk=>k=K'.nb\/k=K'.sb) W4 w6:=((I.eF (S:=λk=>k=K'.nb\/k=K'.sb) ca aI)).aj aV ar;have p:=ak<|show G (H l)<=G (H m)/\True from⟨(ag bn).1,trivial⟩;have:=(ag c).lt K'.nb<|bj<|J z;have:=(ag c).lt K'.sb<|bj<|bj<|J z;have bc:=ak ((ag c).sN (f:=⟨f.dA,G<|H m,.slice x3 (y f.bB) c3,f.bB,y f.bB⟩) (ag HM) (ag HX).2.1.2 o (ao.aA aV<|λcl=>(ag c).ne cl) ds ⟨(W.A _ (az ce) (λj=>by have:=(ag p).1;obtain j|j:=j<;>omega)).trans ce,fh (W.aZ K (λk n j=>by have:=(K.lt k n).1;have cl:G (H l.drew)=G (H l):=rfl;obtain j|j:=j<;>omega))<|bQ _,(ag bd).2.2.1,ar,ar,(ag bd).2.2.2.2.2⟩ (ag p).1 (λk n=>(K.lt k n).1) (by
    have h1:=Py<|ag HP;have h2:=(ag<|ak<|And.intro ap aa).1;show ft (K'.ah++[_])<=4611686018427387904;rw[XE]at h2|-;have:BW (vw<|K'.ah++[⟨f.dA,G<|H m,.slice x3 (y f.bB) c3,f.bB,y f.bB⟩])<=BW (vw K'.ah++vw (eo++f::eq)):=by
     simp[BW,vw];omega
    omega))
   have bo:=ak ((ag r).aj o (λk j=>by
    have h1:=((ag g) K'.nb (bj (J z))).1;have h2:=((ag g) K'.sb (bj (bj (J z)))).1;grind))
   have:x.nb<G (H a):=(ag HD).lt x.nb<|bj<|J z;have bi:=ak ((ag q).qR (o.A _ (bP<|(ag r).D) (λj=>by
    have h1:=((ag g) K'.nb (bj (J z))).1;have h2:=((ag g) K'.sb (bj (bj (J z)))).1;obtain j|j:=j<;>omega)) (o.A _ (ag q).lt (λj=>by
     have:=((ag g) K'.nb (bj (J z))).2;have:=((ag g) K'.sb (bj (bj (J z)))).2;obtain j|j:=j<;>omega)))
   go_wp2;go_roundw
   .let⟨dv,an⟩:=ag bc;refine⟨eo++eq,{K' with ah:=K'.ah++[⟨f.dA,G<|H m,.slice x3 (y f.bB) c3,f.bB,y f.bB⟩],sm:=K'.sm.gK f.dA (.pointer<|M ⟨G<|H m,0,dE⟩)},?_,ag HM,dv,?_,?_,λex hg=>(ag HL) ex ?_,ag bo,(ag HX).1,?_,λex hg=>?_⟩
    .refine List.Perm.trans ?_<|ag HP;show List.Perm (vw (K'.ah++[⟨f.dA,G<|H m,.slice x3 (y f.bB) c3,f.bB,y f.bB⟩])++vw (eo++eq)) (vw K'.ah++vw (eo++f::eq));simp only[vw,bz,bO,gA,cw,mG];exact sJ _ xg.symm
    .intro k n;have:=(ag p).1;have:=(ag r).D;have:=(ag q).lt;obtain j|j|j:=an k n
     .exact(ag g) k j
     .have:k=G (H m):=j;grind
     .have:=(K.lt k j).1;have:G (H l.drew)=G (H l):=rfl;grind
    .rw[bz];exact ag bi
    .grind
    .refine⟨?_,(ag HX).2.1.2⟩;show K'.sm.gK f.dA _=(K'.ah++[_]).map dj.nm;rw[(ag HX).2.1.1,BF<|ag bk,bz];rfl
    grind[ag,mem_singleton]
   .rw[(ag bi).oN,(ag bl).oN];simp
def qE.A{w w':Z}{db:R}{i:Fs}{A:fB}{t:cH}(h:qE w db i A t)(k:∀p,A p->w'.heap[p]?=w.heap[p]?):qE w' db i A t:=by
 let⟨n,g,f,o,j⟩:=h.D;exact⟨⟨n,g,f,o.dU (k _ h.l)<|k _ j,j⟩,h.l,h.cK,h.jV,h.f⟩
structure Kt(t:cH):Prop where
 p:Tp t.ks t.cs
 jV:ny (dK 0 t.cs)
 f:y (gD t.cs)<=100000
def MU(db j3 n6:R)(K:DK)(k:R):Prop:=k<n6/\¬K.j db k/\k≠j3
def XT(e:dI)(ps:cy NT)(t:cH):Prop:=t∈e\/∃p∈ps,p.t=t
def sO(w:Z)(db j3 n6:R)(K:DK)(v:ae):Prop:=∀k,cN v=M k->k<G (H w)/\¬K.j db k/\k≠j3/\(k<n6\/∃f g,w.heap[k]?=M (aK f 235 g))
def sO.aA{w w':Z}{db j3 n6:R}{K:DK}{v:ae}(h:sO w db j3 n6 K v)(k:I (K.j db) w w'):sO w' db j3 n6 K v:=λt n=>by
 let⟨g,j,p,q⟩:=h t n;exact⟨au g k.D,j,p,q.imp id<|λ⟨n,o,u⟩=>⟨n,o,(k.A t g j).trans u⟩⟩
structure LS(w:Z)(db sb base:R)(K:DK)(e:dI)(ps:cy NT)(C:R)(m r s l:ae)(a b c d:dI):Prop where
 D:(nW db K).D w
 L:K.fx.ok
 le:base<=G (H w)
 j:∀k,K.j db k->k<base
 B:sb<base
 o:Steps w
 x:Pow w
 i:MU db sb base K 1
 n:MU db sb base K 2
 sB:∀t∈e,qE w db (vw K.ah) (MU db sb base K) t
 S:∀p∈ps,p.Ok w base/\Kt p.t
 fp:ps.Pairwise NT.mF
 r0:Row w 1 m (y a) (a.map cH.D)
 r1:Row w 1 r (y b) (b.map cH.D)
 r2:Row w 1 s (y c) (c.map cH.D)
 r3:Row w 1 l (y d) (d.map cH.D)
 b0:sO w db sb base K m
 b1:sO w db sb base K r
 b2:sO w db sb base K s
 b3:sO w db sb base K l
 x0:∀t∈a,XT e ps t
 x1:∀t∈b,XT e ps t
 x2:∀t∈c,XT e ps t
 x3:∀t∈d,XT e ps t
 kg:((a++b++c++d).map cH.tb).Nodup
 s1:lZ b
 s2:lZ c
 s3:lZ d
 FX:ik a+ik b+ik c+ik d<=C
 v:C<=3000000000
section
variable{w w':Z}{db j3 n6 C:R}{K:DK}{e:dI}{ps:cy NT}{m r s l:ae}{a b c d:dI}
def XT.jj{t:cH}(h:XT e ps t)(g:cy NT):XT e (ps++g) t:=by
 obtain h|⟨p,f,j⟩:=h;exact J h;exact bj ⟨p,by simp[f],j⟩
def LS.aA(h:LS w db j3 n6 K e ps C m r s l a b c d)(k:I (K.j db) w w')(q:(nW db K).D w'):LS w' db j3 n6 K e ps C m r s l a b c d where
 D:=q
 L:=h.L
 le:=aR h.le k.D
 j:=h.j
 B:=h.B
 o:=λp g=>k.u (h.o p g) h.i.2.1<|au h.i.1 h.le
 x:=h.x.dU<|k.A _ (au h.n.1 h.le) h.n.2.1
 i:=h.i
 n:=h.n
 sB:=λt q=>(h.sB t q).A<|λp g=>k.A p (au g.1 h.le) g.2.1
 S:=λt q=>⟨(h.S t q).1.aA k<|λp g c=>gV (((h.S t q).1.lt p g).1)<|h.j p c,(h.S t q).2⟩
 fp:=h.fp
 r0:=k.bV h.r0<|λp g=>⟨(h.b0 p g).2.1,(h.b0 p g).1⟩
 r1:=k.bV h.r1<|λp g=>⟨(h.b1 p g).2.1,(h.b1 p g).1⟩
 r2:=k.bV h.r2<|λp g=>⟨(h.b2 p g).2.1,(h.b2 p g).1⟩
 r3:=k.bV h.r3<|λp g=>⟨(h.b3 p g).2.1,(h.b3 p g).1⟩
 b0:=h.b0.aA k
 b1:=h.b1.aA k
 b2:=h.b2.aA k
 b3:=h.b3.aA k
 x0:=h.x0
 x1:=h.x1
 x2:=h.x2
 x3:=h.x3
 kg:=h.kg
 s1:=h.s1
 s2:=h.s2
 s3:=h.s3
 FX:=h.FX
 v:=h.v
def LS.p(h:LS w db j3 n6 K e ps C m r s l a b c d){t:cH}(f:XT e ps t):vP t.ks t.cs:=by
 obtain f|⟨p,g,rfl⟩:=f;exact(h.sB t f).p;exact(h.S p g).2.p.zx
def LS.jV(h:LS w db j3 n6 K e ps C m r s l a b c d){t:cH}(f:XT e ps t):ny t.ks:=by
 obtain f|⟨p,g,rfl⟩:=f;exact(h.sB t f).jV;rw[(h.S p g).1.ks];exact(h.S p g).2.jV
def LS.za(h:LS w db j3 n6 K e ps C m r s l a b c d){t:cH}(f:XT e ps t):y t.dq<=qC t.ks:=by
 obtain f|⟨p,g,rfl⟩:=f;exact(h.sB t f).za;exact Nat.le_of_eq (Lp (h.S p g).2.p.dL (h.S p g).2.p.l).symm
def AW{f:dI}(h:∀t∈f,y t.dq<=qC t.ks):y (gy f)<=ik f:=by
 induction f with
 |nil=>simp[gy]
 |cons t i g=>
  have:=g (λu f=>h u<|by simp[f]);have:=h t ar;rw[uO,ai];simp only[ik,bO,fq]at*;omega
def FG{f:dI}(h:∀t∈f,Tp t.ks t.cs):ik f=y (gy f):=by
 induction f with
 |nil=>simp[gy,ik]
 |cons t i g=>
  have:=g (λu f=>h u<|by simp[f]);have:qC t.ks=y t.dq:=Lp (h t ar).dL (h t ar).l;rw[uO,ai];simp only[ik,bO,fq]at*;omega
def LS.t(h:LS w db j3 n6 K e ps C m r s l a b c d):y (gy a)<=ik a/\y (gy b)<=ik b/\y (gy c)<=ik c/\y (gy d)<=ik d:=⟨AW λt q=>h.za<|h.x0 t q,AW λt q=>h.za<|h.x1 t q,AW λt q=>h.za<|h.x2 t q,AW λt q=>h.za<|h.x3 t q⟩
def LS.D6(h:LS w db j3 n6 K e ps C m r s l a b c d){t:cH}(g:XT e ps t):nX (nW db K) (G<|H w) t.tb t.ks t.cs w:=by
 have u:=h.le;have q:1<G (H w)/\¬(nW db K).F 1:=⟨bP h.i.1,h.i.2.1⟩;have o:2<G (H w)/\¬(nW db K).F 2:=⟨bP h.n.1,h.n.2.1⟩;have hF:∀k,(nW db K).F k->k<G (H w):=λk i=>au (h.j k i) u;obtain g|⟨p,A,rfl⟩:=g;let⟨x,j,f,B,n⟩:=(h.sB t g).D;have v:=(h.sB t g).f;rw[PI]at v;rw[v];exact nX.TV True db K (K.j db) (G<|H w) t.tb t.cK (h.sB t g).cK _ _ _ x j f aF t.ks w B (h.sB t g).jV trivial (aq _) hF ⟨bP<|(h.sB t g).l.1,(h.sB t g).l.2.1⟩ ⟨bP n.1,n.2.1⟩ h.o q h.x o;let⟨f,n⟩:=h.S p A;have x:=f.lt;have v:∀k,p.D k->k<G (H w)/\¬(nW db K).F k:=λk i=>⟨(x k i).2,λc=>gV (h.j k c)<|(x k i).1⟩;(have j:y (gD p.t.cs)<=p.IX:=by obtain⟨c,_⟩|⟨F,B,D,c,_,_,E,_⟩:=f.A.2;cases c;grind);exact nX.Y1 (nW db K) (G<|H w) p.t.tb 0 0 0 p.bb 0 p.vV p.x 0 p.IX p.t.ks p.t.cs w f.D n.p (λk i=>(h.jV<|bj ⟨p,A,z⟩).l k i) (fy.bB f.A) j (bP n.f) (v _<|J z) (v _<|bj<|J z) (v _<|bj<|bj z) h.o q h.x o trivial (aq _) hF
def LS.A(h:LS w db j3 n6 K e ps C m r s l a b c d):y a+y b+y c+y d<=3000000000:=by
 have:=h.FX;have:=h.v;have:=h.t;have:=je<|λt f=>h.p<|h.x0 t f;have:=je h.s1.p;have:=je h.s2.p;have:=je h.s3.p;omega
def LS.zce(h:LS w db j3 n6 K e ps C m r s l a b c d):uD (nW db K) (G<|H w) r b w:=⟨h.r1,λk f=>⟨(h.b1 k f).1,(h.b1 k f).2.1⟩,λt g=>h.D6<|h.x1 t g,h.s1,bP h.A⟩
def LS.zcd(h:LS w db j3 n6 K e ps C m r s l a b c d):uD (nW db K) (G<|H w) s c w:=⟨h.r2,λk f=>⟨(h.b2 k f).1,(h.b2 k f).2.1⟩,λt g=>h.D6<|h.x2 t g,h.s2,bP h.A⟩
def LS.zec(h:LS w db j3 n6 K e ps C m r s l a b c d):uD (nW db K) (G<|H w) l d w:=⟨h.r3,λk f=>⟨(h.b3 k f).1,(h.b3 k f).2.1⟩,λt g=>h.D6<|h.x3 t g,h.s3,bP h.A⟩
def Gu{i n:R}{v:ae}{k:iE}(h:Row w i v n k)(p:0<n):∃b f g,v=bX b f n g/\n<=g:=by
 obtain⟨_,o⟩|⟨b,f,g,q,j,_⟩:=h.2;omega;grind
def LS.JG{j:dI}{B:dB}(h:LS w db j3 n6 K e ps C m r s l a b c d)(L:I (K.j db) w w')(x:sD w' (G<|H w) j)(E:j.map cH.dq=jp B)(F:gF B)(t:sk 5 B)(D:∀S∈B,S.Good):∃i:cy NT,i.map NT.t=j/\(∀p∈ps++i,p.Ok w' n6/\Kt p.t)/\(ps++i).Pairwise NT.mF/\(∀A∈j,XT e (ps++i) A)/\(∀A∈j,G (H w)<=A.tb)/\(j.map cH.tb).Nodup:=by
 let⟨i,k,n,v⟩:=x;refine⟨i,k,λp f=>?_,?_,λA g=>?_,λA g=>?_,?_⟩;obtain c|c:=aP.1 f;exact⟨(h.S p c).1.aA L<|λu o d=>gV (((h.S p c).1.lt u o).1)<|h.j u d,(h.S p c).2⟩;let⟨N,O,P,Q⟩:=(uK E x.bZ F t D) p.t (by rw[<-k];grind);refine⟨(n p c).pO h.le,N,O,?_⟩;have:=(n p c).f.A;have:=(n p c).f.xM;omega;rw[eH];exact⟨h.fp,v,λp f q i u o g=>gV ((λp f u o=>((h.S p f).1.lt u o).2:∀p∈ps,∀u,p.D u->u<G (H w)) p f u o)<|((n q i).lt u g).1⟩;rw[<-k]at g;obtain⟨p,f,rfl⟩:=cC.1 g;exact bj ⟨p,by simp[f],rfl⟩;rw[<-k]at g;obtain⟨p,f,rfl⟩:=cC.1 g;exact(n p f).lX;rw[<-k,iV];unfold List.Nodup;rw[List.pairwise_map];refine v.imp<|λ{p q}f g=>f p.t.tb (J z)<|J g
def XT.EA(h:LS w db j3 n6 K e ps C m r s l a b c d){t:cH}(f:XT e ps t):t.tb<G (H w):=by
 obtain f|⟨p,g,rfl⟩:=f;have:=(h.sB t f).l.1;have:=h.le;omega;exact((h.S p g).1.lt _<|J z).2
def LS.lt(h:LS w db j3 n6 K e ps C m r s l a b c d):∀t∈a++b++c++d,t.tb<G (H w):=λt q=>by
 simp only[aP]at q;obtain((q|q)|q)|q:=q;exact XT.EA h<|h.x0 t q;exact XT.EA h<|h.x1 t q;exact XT.EA h<|h.x2 t q;exact XT.EA h<|h.x3 t q
def yr{f p:R}{v:ae}{j:iE}(h:fD w' (G<|H w) 235 f v p j)(o:∀k,K.j db k->k<n6)(i:j3<n6)(n:n6<=G (H w)):sO w' db j3 n6 K v:=λk g=>by
 have:=h.lt k g;grind[fZ]
end
def DT{j4 i f O:dI}{v:R}(h:(O.map cH.tb).Nodup)(k:∀t∈O,t.tb<v)(g:(j4++i).Sublist O)(o:(f.map cH.tb).Nodup)(j:∀t∈f,v<=t.tb):((j4++f++i).map cH.tb).Nodup:=by
 have n:(j4++f++i).Perm (f++(j4++i)):=by rw[<-cw];exact List.Perm.append_right _ List.perm_append_comm
 rw[(n.map cH.tb).nodup_iff,bz,rM];refine⟨o,List.Nodup.sublist (g.map _) h,λE p x u D=>?_⟩;obtain⟨t,q,rfl⟩:=cC.1 p;obtain⟨B,A,rfl⟩:=cC.1 u;have:=j t q;have:=k B<|g.subset A;omega
def GW{i:eD}{f:eN}{g:iF}{x:E}(h:x∈uy i f g):x∈g.flatten:=(ku _).mem_iff.1<|(oE i<|eL g).subset<|(vA i f g).subset h
def BK(h:eD)(f:eN)(g:iF):y (uy h f g)<=y g.flatten:=by
 have:=(vA h f g).length_le;have:=(oE h<|eL g).length_le;have:=(ku g).length_eq;omega
def zcp{u v:dI}(n:lZ u)(o:lZ v)(B:y (gy u)+y (gy v)<=3000000000)(j:R)(i:j<y u)(f:dI)(k:f.Sublist v):yO (eL<|gy f::[u[j]].map cH.dq)/\(∀x∈eL (gy f::[u[j]].map cH.dq),x.Good)/\y (eL<|gy f::[u[j]].map cH.dq)<=3000000000:=by
 refine⟨wz _<|λD h=>?_,λx g=>?_,?_⟩;simp only[bO,gA,dy,lf,uR]at h;obtain rfl|rfl:=h;exact o.o.kD<|Ap k;exact n.bZ<|aB i;have g:=(ku _).mem_iff.1 g;simp only[bO,gA,di,jz,eu,aP]at g;obtain q|q:=g;exact uI o x<|(Ap k).subset q;exact uI n x<|lY.2 ⟨_,aB i,q⟩;(have p:y (eL<|gy f::[u[j]].map cH.dq)=y (gy f)+y u[j].dq:=by rw[(ku _).length_eq];simp);have t:=(Ap k).length_le;(have A:y u[j].dq<=y (gy u):=by have:=(Ap (us:=[u[j]]) (ts:=u)<|List.singleton_sublist.2<|aB i).length_le;simpa[gy]using this);omega
def Ht(u v:dI):(gy v::u.map cH.dq).flatten=gy v++gy u:=by simp[gy]
def LS.zcl{w:Z}{db j3 n6 C:R}{K:DK}{e:dI}{ps:cy NT}{m r s l:ae}{a b c d:dI}(h:LS w db j3 n6 K e ps C m r s l a b c d)(ha:0<y a)(o:eD)(P:Option Addr)(O:R)(hm:Row w 1 (am P (y o) O) (y o) (o.map<|Value.int .u64))(W:∀A,cN (am P (y o) O)=M A->A<G (H w)/\¬K.j db A)(E:y o<=4):cR bN 132 #[ef #[m,r,s,l],ay 0,am P (y o) O] w λan w'=>(∃T i N,∃Q:dI,∃ab,an=aN (de #[ef #[aF,am T i N,s,l],ib])/\LS w' db j3 n6 K e ab C aF (am T i N) s l [] Q c d/\I (K.j db) w w')\/Es (nW db K) w w' (K.j db) an bL:=by
 obtain⟨b0,o0,c0,rfl,ao⟩:=Gu h.r0 ha;obtain⟨x1,c1,rfl⟩:=cG h.r1;obtain⟨x2,c2,rfl⟩:=cG h.r2;obtain⟨x3,c3,rfl⟩:=cG h.r3;let⟨l0,l1,l2,l3⟩:=h.t;have ad:=h.FX;have ac:=h.v;have D:∀al∈eL (gy b::a.map cH.dq),al.Good:=by intro al hx;have:=(ku _).mem_iff.1 hx;rw[Ht,aP]at this;obtain q|q:=this;exact uI h.s1 al q;let⟨L,t,aa⟩:=lY.1 q;exact Nn (h.p<|h.x0 L t) al aa
 have u:y (eL<|gy b::a.map cH.dq)<=3000000000:=by have h1:=(ku<|gy b::a.map cH.dq).length_eq;rw[Ht,ai]at h1;omega
 have F:yO (eL<|gy b::a.map cH.dq):=wz _ (λf hr=>by
  obtain rfl|hr:=dy.1 hr
  .exact h.s1.o
  .obtain⟨L,t,rfl⟩:=cC.1 hr;exact(h.p (h.x0 L t)).o)
 refine(WD b0 o0 c0 x1 x2 x3 _ _ _ c1 c2 c3 a c d h.r0 ⟨(h.b0 _ z).1,(h.b0 _ z).2.1⟩ (λL t=>h.D6<|h.x0 L t) h.zce h.r2 h.r3 (λA p=>⟨(h.b2 A p).1,(h.b2 A p).2.1⟩) (λA p=>⟨(h.b3 A p).1,(h.b3 A p).2.1⟩) h.D (aq _) (λA p=>gV (h.j A p) h.le) h.o ⟨gV h.i.1 h.le,h.i.2.1⟩ h.A o P O hm W E _ z F D u).mono ?_;rintro an w'(⟨T,i,N,Q,rfl,v,g,f,V,t⟩|B);rotate_left;exact bj B;let⟨j,n,x,_⟩:=vB (ms:=o) (lowest:=c.isEmpty&&d.isEmpty) F D u E;let⟨qs,q0,q1,q2,q3,q4,q5⟩:=h.JG t f g j n x;refine J ⟨T,i,N,Q,ps++qs,z,?_,t⟩;have h':=h.aA t V;refine{h' with S:=q1,fp:=q2,r0:=⟨rfl,J ⟨rfl,rfl⟩⟩,r1:=dQ v,b0:=?_,b1:=yr v h.j h.B h.le,x0:=?_,x1:=q3,x2:=λL k=>(h'.x2 L k).jj qs,x3:=λL k=>(h'.x3 L k).jj qs,kg:=?_,s1:=(AG g f.bZ j n x:lZ Q),FX:=?_};intro A p;cases p;grind
 rw[cw];exact DT (j4:=[]) h.kg h.lt aI q5 q4;have:ik ([]:dI)=0:=rfl;have e1:=FG<|λL k=>(uK g f.bZ j n x L k).1;rw[pP g]at e1;have e2:=BK o (c.isEmpty&&d.isEmpty)<|gy b::a.map cH.dq;rw[Ht,ai]at e2;unfold yz at e1;omega
def LS.zck{w:Z}{db j3 n6 C:R}{K:DK}{e:dI}{ps:cy NT}{m r s l:ae}{a b c d:dI}(h:LS w db j3 n6 K e ps C m r s l a b c d)(hb:0<y b)(t:eD)(mx:Option Addr)(mc:R)(hm:Row w 1 (am mx (y t) mc) (y t) (t.map<|Value.int .u64))(ad:∀V,cN (am mx (y t) mc)=M V->V<G (H w)/\¬K.j db V)(O:y t<=4):cR bN 132 #[ef #[m,r,s,l],ay 1,am mx (y t) mc] w λaa w'=>(∃xl nl cl xm k cm,∃b' c':dI,∃an,aa=aN (de #[ef #[m,am xl nl cl,am xm k cm,l],ib])/\LS w' db j3 n6 K e an C m (am xl nl cl) (am xm k cm) l a b' c' d/\y b'+1=y b/\I (K.j db) w w')\/Es (nW db K) w w' (K.j db) aa bL:=by
 obtain⟨b0,o0,c0,rfl,ac⟩:=Gu h.r1 hb;obtain⟨x1,c1,rfl⟩:=cG h.r0;obtain⟨x2,c2,rfl⟩:=cG h.r2;obtain⟨x3,c3,rfl⟩:=cG h.r3;let⟨l0,l1,l2,l3⟩:=h.t;have ap:=h.FX;have ao:=h.v;have n:=zcp (u:=b) (v:=c) h.s1 h.s2 U;refine(Ie b0 o0 c0 x2 x1 x3 _ _ _ _ _ _ a d h.zce ac hb h.zcd h.r0 h.r3 (λV D=>⟨(h.b0 V D).1,(h.b0 V D).2.1⟩) (λV D=>⟨(h.b3 V D).1,(h.b3 V D).2.1⟩) h.D (aq _) (λV D=>gV (h.j V D) h.le) h.o ⟨gV h.i.1 h.le,h.i.2.1⟩ (bP h.A) (bP<|vN c) _ (J ⟨z,z,z,z,z,z,z⟩) n t mx mc hm ad O).mono ?_;rintro aa w'(⟨xl,nl,cl,xm,k,cm,L,A,hj,x,q,rfl,hcut,Q,T,g,i,ab,ht⟩|N);rotate_left;exact bj N;let⟨s1,s2,s3⟩:=n A hj _ ((rK _ _).trans (mV _ _):(List.take (q-x)<|List.drop x c).Sublist _);let⟨o,p,B,_⟩:=vB (ms:=t) (lowest:=d.isEmpty) s1 s2 s3 O;let⟨W,q0,q1,q2,q3,q4,q5⟩:=h.JG ht i g o p B;have al:lZ (c.take x++L++c.drop q):=OW h.s1 h.s2 hj hcut (AG g i.bZ o p B:lZ L) (λf hx=>by rw[pP g]at hx;have:=GW hx;simp only[bO,gA,di,jz,eu,aP]at this;exact this.symm);have j:(b.take A++b.drop (A+1)).Sublist b:=by grind[M9,append_assoc,sublist_append_right]
 have E:(c.take x++c.drop q).Sublist c:=by grind[o7,Iu.le,append_assoc,sublist_append_right]
 refine J ⟨xl,nl,cl,xm,k,cm,b.take A++b.drop (A+1),c.take x++L++c.drop q,ps++W,z,?_,by simp;omega,ht⟩;have h':=h.aA ht ab;have P:∀F∈c.take x++L++c.drop q,F∈c\/F∈L:=by grind
 refine{h' with S:=q1,fp:=q2,r1:=dQ Q,r2:=dQ T,b1:=yr Q h.j h.B h.le,b2:=yr T h.j h.B h.le,x0:=λF f=>(h'.x0 F f).jj W,x1:=λF f=>(h'.x1 F<|j.subset f).jj W,x2:=?_,x3:=λF f=>(h'.x3 F f).jj W,kg:=?_,s1:=h.s1.kD j,s2:=al,FX:=?_};intro F f;obtain aa|aa:=P F f;exact(h'.x2 F aa).jj W;exact q3 F aa;rw[show a++(b.take A++b.drop (A+1))++(c.take x++L++c.drop q)++d=(a++(b.take A++b.drop (A+1))++c.take x)++L++(c.drop q++d)by grind];exact DT h.kg h.lt (dV<|((kJ a).append j).append<|E.append<|kJ d) q5 q4;have e1:=FG<|λF f=>(uK g i.bZ o p B F f).1;rw[pP g]at e1;have e2:=BK t d.isEmpty<|gy ((c.drop x).take<|q-x)::[b[A]].map cH.dq;simp only[bO,gA,di,jz,eu,ai]at e2;unfold yz at e1;simp only[bO,gA]at e1;(have:ik b=ik (b.take A)+qC b[A].ks+ik (b.drop<|A+1):=by(conv=>lhs;rw[M9 b A hj,iJ,iJ]);simp[ik]);(have:ik c=ik (c.take x)+ik ((c.drop x).take<|q-x)+ik (c.drop q):=by conv=>lhs;rw[o7 c hcut.le,iJ,iJ]);have:y b[A].dq<=qC b[A].ks:=h.za<|h.x1 _<|aB hj;have:y (gy<|(c.drop x).take<|q-x)<=ik ((c.drop x).take<|q-x):=AW<|λF q=>h.za<|h.x2 _<|mU<|ix q;rw[iJ,iJ,iJ];omega
def LS.zcj{w:Z}{db j3 n6 C:R}{K:DK}{e:dI}{ps:cy NT}{m r s l:ae}{a b c d:dI}(h:LS w db j3 n6 K e ps C m r s l a b c d)(hb:0<y c)(t:eD)(mx:Option Addr)(mc:R)(hm:Row w 1 (am mx (y t) mc) (y t) (t.map<|Value.int .u64))(ad:∀V,cN (am mx (y t) mc)=M V->V<G (H w)/\¬K.j db V)(O:y t<=4):cR bN 132 #[ef #[m,r,s,l],ay 2,am mx (y t) mc] w λaa w'=>(∃xl nl cl xm k cm,∃c' d':dI,∃an,aa=aN (de #[ef #[m,r,am xl nl cl,am xm k cm],ib])/\LS w' db j3 n6 K e an C m r (am xl nl cl) (am xm k cm) a b c' d'/\y c'+1=y c/\I (K.j db) w w')\/Es (nW db K) w w' (K.j db) aa bL:=by
 obtain⟨b0,o0,c0,rfl,ac⟩:=Gu h.r2 hb;obtain⟨x1,c1,rfl⟩:=cG h.r0;obtain⟨x2,c2,rfl⟩:=cG h.r1;obtain⟨x3,c3,rfl⟩:=cG h.r3;let⟨l0,l1,l2,l3⟩:=h.t;have ap:=h.FX;have ao:=h.v;have n:=zcp (u:=c) (v:=d) h.s2 h.s3 U;refine(Ie b0 o0 c0 x3 x1 x2 _ _ _ _ _ _ a b h.zcd ac hb h.zec h.r0 h.r1 (λV D=>⟨(h.b0 V D).1,(h.b0 V D).2.1⟩) (λV D=>⟨(h.b1 V D).1,(h.b1 V D).2.1⟩) h.D (aq _) (λV D=>gV (h.j V D) h.le) h.o ⟨gV h.i.1 h.le,h.i.2.1⟩ (bP h.A) (bP<|vN d) _ (bj ⟨z,z,z,z,z,z,z⟩) n t mx mc hm ad O).mono ?_;rintro aa w'(⟨xl,nl,cl,xm,k,cm,L,A,hj,x,q,rfl,hcut,Q,T,g,i,ab,ht⟩|N);rotate_left;exact bj N;let⟨s1,s2,s3⟩:=n A hj _ ((rK _ _).trans (mV _ _):(List.take (q-x)<|List.drop x d).Sublist _);let⟨o,p,B,_⟩:=vB (ms:=t) (lowest:=cz) s1 s2 s3 O;let⟨W,q0,q1,q2,q3,q4,q5⟩:=h.JG ht i g o p B;have al:lZ (d.take x++L++d.drop q):=OW h.s2 h.s3 hj hcut (AG g i.bZ o p B:lZ L) (λf hx=>by rw[pP g]at hx;have:=GW hx;simp only[bO,gA,di,jz,eu,aP]at this;exact this.symm);have j:(c.take A++c.drop (A+1)).Sublist c:=by grind[M9,append_assoc,sublist_append_right]
 have E:(d.take x++d.drop q).Sublist d:=by grind[o7,Iu.le,append_assoc,sublist_append_right]
 refine J ⟨xl,nl,cl,xm,k,cm,c.take A++c.drop (A+1),d.take x++L++d.drop q,ps++W,z,?_,by simp;omega,ht⟩;have h':=h.aA ht ab;have P:∀F∈d.take x++L++d.drop q,F∈d\/F∈L:=by grind
 refine{h' with S:=q1,fp:=q2,r2:=dQ Q,r3:=dQ T,b2:=yr Q h.j h.B h.le,b3:=yr T h.j h.B h.le,x0:=λF f=>(h'.x0 F f).jj W,x1:=λF f=>(h'.x1 F f).jj W,x2:=λF f=>(h'.x2 F<|j.subset f).jj W,x3:=?_,kg:=?_,s2:=h.s2.kD j,s3:=al,FX:=?_};intro F f;obtain aa|aa:=P F f;exact(h'.x3 F aa).jj W;exact q3 F aa;rw[show a++b++(c.take A++c.drop (A+1))++(d.take x++L++d.drop q)=(a++b++(c.take A++c.drop (A+1))++d.take x)++L++d.drop q by grind];exact DT h.kg h.lt (dV<|((kJ<|a++b).append j).append E) q5 q4;have e1:=FG<|λF f=>(uK g i.bZ o p B F f).1;rw[pP g]at e1;have e2:=BK t cz<|gy ((d.drop x).take<|q-x)::[c[A]].map cH.dq;simp only[bO,gA,di,jz,eu,ai]at e2;unfold yz at e1;simp only[bO,gA]at e1;(have:ik c=ik (c.take A)+qC c[A].ks+ik (c.drop<|A+1):=by(conv=>lhs;rw[M9 c A hj,iJ,iJ]);simp[ik]);(have:ik d=ik (d.take x)+ik ((d.drop x).take<|q-x)+ik (d.drop q):=by conv=>lhs;rw[o7 d hcut.le,iJ,iJ]);have:y c[A].dq<=qC c[A].ks:=h.za<|h.x2 _<|aB hj;have:y (gy<|(d.drop x).take<|q-x)<=ik ((d.drop x).take<|q-x):=AW<|λF q=>h.za<|h.x3 _<|mU<|ix q;rw[iJ,iJ,iJ];omega
def NZ{p:Func}{v:Tmp}(h:p.results=#[.cell v 108])(a:Array ae)(w:Z)(r:R)(l m n o:Option Addr)(g i j k c d e f:R)(x:TypeId)(q:R×R)(u:a.getD v jm=aJ r)(s:w.heap[r]?=M (aK #[am l g c,am m i d,am n j e,am o k f] x q)):(results p a).run bN w=.ok (ef #[am l g c,am m i d,am n j e,am o k f]) w:=by
 have b:a[v]?.getD jm=aJ r:=dV u;have t:=kP (P:=bN) w r x 108 #[am l g c,am m i d,am n j e,am o k f] q _ s underlying108 z aH;simp[results,h,b,asAddr,t]
def VN{m:dB}(l:eD)(h:lF a d m)(hm:Row a 1 w (y l) (l.map<|Value.int .u64))(N:yO m)(hg:∀aD∈m,aD.Good)(hl:y m<=3000000000)(h4:y l<=4)(hv:∀k,cN d=M k->k<G (H a))(A:∀k,cN w=M k->k<G (H a))(hT:Steps a)(T:1<G (H a)):cR bN 149 #[d,w] a λP w'=>∃v3,∃f:dI,P=aN (ef #[aF,aF,aF,v3])/\fD w' (G<|H a) 235 1 v3 (y f) (f.map cH.D)/\f.map cH.dq=jp (kM<|gu l m)/\sD w' (G<|H a) f/\I aC a w':=by
 have g:I aC a (dw a<|aK #[aF,aF,aF,aF] 108):=(cI aC a);have V:(dw a<|aK #[aF,aF,aF,aF] 108).heap[G<|H a]?=M (aK #[aF,aF,aF,aF] 108 (0,0)):=aQ _ z;have C:G (H<|dw a<|aK #[aF,aF,aF,aF] 108)=G (H a)+1:=ar;have ad:=yw l (g.bV h<|λk e=>⟨id,hv k e⟩) N hl (g.bV hm<|λk e=>⟨id,A k e⟩) U (λk e=>au (hv k e) g.D)<|λk e=>au (A k e) g.D;let⟨x1,n1,av⟩:=cG h;let⟨x2,n2,ax⟩:=cG hm;subst av ax;go_in
 go_wp21;go_call ad as P w2⟨v2,rfl,r,D⟩;have aa:=Qm (dQ r) (zP N l) (aR (oE l m).length_le hl)<|λk e=>(r.lt k e).2;obtain⟨y2,d2,rfl⟩:=aM r;have Q:=ak<|g.t D;have t:=ak<|(D.A _ (by rw[C];omega) id).trans V;go_wp21;go_call aa as P w3⟨v3,rfl,s,E⟩;have n:=(nU<|gu l m).trans<|oE l m;have v:=ak<|Q.t E;have al:=wL (dQ s) ((zP N l).kD<|nU _) (((AC N).kD<|nU _).aT U) (λaD a=>hg aD<|n.subset a) (aR n.length_le hl) (λk e=>(s.lt k e).2)<|λk e=>v.u (hT k e) id T;obtain⟨y3,d3,rfl⟩:=aM s;have o:=ak<|(E.A _ (az t) id).trans t;go_wp21;go_call al as P w4⟨v4,f,rfl,B,ao,ab,F⟩;have c:=(F.A _ (az o) id).trans o;have:G (H a)+1<=G (H w3):=bP<|az o;have S:=ak<|v.t F;obtain⟨O,L,rfl⟩:=aM B;have K:=ak<|And.intro B (And.intro ao ab);have:=aX c 0;have:=aX c 1;have:=aX c 2;have:=aX c 3;have:=cV (i:=0) c;have:=cV (i:=1) c;have:=cV (i:=2) c;have:=cV (i:=3) c;let⟨p,x⟩:∃p,cP (cP (cP (cP w4 (X (G<|H a) 0) aF) (X (G<|H a) 1) aF) (X (G<|H a) 2) aF) (X (G<|H a) 3) (am O (y f) L)=p:=⟨_,rfl⟩;have W:p.heap[G<|H a]?=M (aK #[aF,aF,aF,am O (y f) L] 108 (0,0)):=x▸DU c;have j:I (λq=>q=G (H a)) w4 p:=x▸(((iP (G<|H a) w4).aL _ _ _<|J z).aL _ _ _<|J z).aL _ _ _ (J z);have ap:I aC a p:=S.aj j<|λk P=>bj (by have e':k=G (H a):=P;omega);have an:fD p (G<|H a) 235 1 (am O (y f) L) (y f) (f.map cH.D):=fh (j.aZ K.1 (λk e c=>by have:k=G (H a):=c;have:=(K.1.lt k e).1;omega)) U;have ac:sD p (G<|H a) f:=(K.2.2.dN j (λk P=>by have e':k=G (H a):=P;rw[e'];grind)).pO U;have u:=ak<|And.intro an (And.intro K.2.1 (And.intro ac ap));go_wp2;exact ci (NZ z _ _ (G<|H a) dE dE dE O 0 0 0 (y f) 0 0 0 L _ _ z W) z ⟨_,f,z,u⟩
structure C9(w0 w:Z)(x:R)(ob:Obj)(o:ae)(bs:eD):Prop where
 aZ:fy w (G<|H w0) o bs
 g:w.heap[x]?=M ob
 ne:cN o≠M x
 aA:I aC w0 w
def C9.lA{j:Obj}{c:eD}(h:C9 a e b j d m)(i:fm e P d w)(l:fy P (G<|H a) w c):C9 a P b j w c:=by
 have f:=az h.g;have g:=I.fU i;refine⟨l,(g.A b f h.ne).trans h.g,λk=>?_,h.aA.aj g<|λq k=>bj (h.aZ.lt q k).1⟩;obtain n|⟨o,n,p⟩:=i.f;exact h.ne<|n.symm.trans k;grind
def IW(t:cH):eD:=le 8 t.cK++(le 4 (jM t.ks)++(le 4 (y<|iD t.ks)++le 4 (pt<|iD t.ks)))
def uC(a:dI):eD:=le 4 (y a)++a.flatMap IW
def mi(next b a:Y)(c:cy dI):eD:=ij<|le 8 next++le 8 b++le 8 a++(c.map uC).flatten
def PN(t:cH):y (IW t)=20:=by simp[IW,dh]
theorem tR(a:dI):y (uC a)=4+20*y a:=by
 unfold uC;rw[ai,dh];induction a with
 |nil=>rfl
 |cons t r b=>rw[dR,ai,PN,bK];omega
structure cH.A(t:cH):Prop where
 cK:t.cK<18446744073709551616
 d:jM t.ks<4294967296
 i:y (iD t.ks)<4294967296
def VH(a:dI)(n j:R)(h:n<y a)(c:j<4):(fX a)[n*4+j]?=(cH.t a[n])[j]?:=by
 have:∀(l:dI),y (fX l)=y l*4:=by
  intro l;induction l with
  |nil=>rfl
  |cons t r b=>unfold fX at*;rw[dR,ai,b];simp[cH.t];omega
 have:fX a=fX (a.take n)++(cH.t a[n]++fX (a.drop<|n+1)):=by(have b:a=a.take n++a[n]::a.drop (n+1):=by rw[<-dm h,du]);rw[(cD fX b:fX a=fX (a.take n++a[n]::a.drop (n+1)))];unfold fX;rw[gR,dR]
 grind
def SS(next g b:Y)(C D E F:Option Addr)(t c1 c2 c3:R)(m0 m1 m2 m3:dI)(hT:Steps a)(r0:Row a 4 (am C (y m0) t) (y m0) (fX m0))(r1:Row a 4 (am D (y m1) c1) (y m1) (fX m1))(r2:Row a 4 (am E (y m2) c2) (y m2) (fX m2))(r3:Row a 4 (am F (y m3) c3) (y m3) (fX m3))(b0:∀k,cN (am C (y m0) t)=M k->k<G (H a))(b1:∀k,cN (am D (y m1) c1)=M k->k<G (H a))(b2:∀k,cN (am E (y m2) c2)=M k->k<G (H a))(b3:∀k,cN (am F (y m3) c3)=M k->k<G (H a))(k0:∀ac∈m0,ac.A)(k1:∀ac∈m1,ac.A)(k2:∀ac∈m2,ac.A)(k3:∀ac∈m3,ac.A)(hn:0<=next/\next<18446744073709551616)(hl:0<=g/\g<18446744073709551616)(hb:0<=b/\b<18446744073709551616)(hs:y m0+y m1+y m2+y m3<=3000000000):cR bN 260 #[ef #[bw next,bw g,bw b,am C (y m0) t,am D (y m1) c1,am E (y m2) c2,am F (y m3) c3]] a λK w'=>∃v',K=aN v'/\fy w' (G<|H a) v' (mi next g b [m0,m1,m2,m3])/\I aC a w':=by
 let⟨O,Q⟩:∃O:Obj,O=aK #[bw next,bw g,bw b,am C (y m0) t,am D (y m1) c1,am E (y m2) c2,am F (y m3) c3] 161:=⟨_,rfl⟩;have d:∀(bh:Z)(aa:R)(bg:ae),bh.heap[G<|H a]?=M O->(#[bw next,bw g,bw b,am C (y m0) t,am D (y m1) c1,am E (y m2) c2,am F (y m3) c3]:Array ae)[aa]?=M bg->bA bh (X (G<|H a) aa)=M bg:=by grind[cE]
 have hA0:C9 a (dw a O) (G<|H a) O aF []:=⟨fy.kj _ _,aQ _ z,(by intro K;cases K),(cI _ a)⟩;have p1:=rh next hA0.aZ hA0.aA.D ar hn.1 hn.2
 rw[Q]at p1;go_in
 go_wp21;go_call p1 as K w1⟨v1,rfl,an,W⟩;rw[<-Q]at W;have hA1:=hA0.lA W an;have:=d w1 1 _ hA1.g z;go_wp21;go_call(rh g hA1.aZ hA1.aA.D (by simp[dh]) hl.1 hl.2)as K w2⟨v2,rfl,ao,aV⟩;have hA2:=hA1.lA aV ao;have:=d w2 2 _ hA2.g z;go_wp21;go_call(rh b hA2.aZ hA2.aA.D (by simp[dh]) hb.1 hb.2)as K w3⟨v3,rfl,ap,ba⟩;have hA3:=hA2.lA ba ap;have:=d w3 3 _ hA3.g z;have:=d w3 4 _ hA3.g z;have:=d w3 5 _ hA3.g z;have:=d w3 6 _ hA3.g z;have N:=ak hA3.aZ;let⟨e,j⟩:∃e,(([]++le 8 next)++le 8 g)++le 8 b=e:=⟨_,rfl⟩;have:y e=24:=by rw[<-j];simp[dh]
 rw[j]at N;go_wp2;go_loopw [3,21] (λbm aa wr=>∃k:R,k<=4/\aa=ay k/\fy wr (G<|H a) bm (e++(([m0,m1,m2,m3].take k).map uC).flatten)/\I aC a wr) (λ_ aa _=>4-(intOf aa).toNat)
 exact⟨0,bQ _,z,dV<|ag N,(ak hA3.aA)⟩;(.obtain⟨k,hk,rfl,l,s⟩:=hrel;have V:=s.D;have T:=l.lt;(have u:∀k,y (e++(([m0,m1,m2,m3].take k).map uC).flatten)<=90000000000:=by intro k;(have h1:y ((([m0,m1,m2,m3].take k).map uC).flatten)<=y ((([m0,m1,m2,m3]).map uC).flatten):=by grind[Sublist.length_le,flatten_append,take_append_drop,sublist_append_left]);grind[tR,length_append]);obtain al|al:=iT k 4;(·(let⟨c,j4,cM,HR,HB,HK,bk,x,bl⟩:∃(c:dI)(j4:Option Addr)(cM:R),Hid (Row a 4 (am j4 (y c) cM) (y c)<|fX c)/\Hid (∀k,cN (am j4 (y c) cM)=M k->k<G (H a))/\Hid (∀ac∈c,ac.A)/\y c<=3000000000/\e++(([m0,m1,m2,m3].take<|k+1).map uC).flatten=(e++(([m0,m1,m2,m3].take k).map uC).flatten)++uC c/\∀bh,(Instr.index 159 (ef #[am C (y m0) t,am D (y m1) c1,am E (y m2) c2,am F (y m3) c3])<|ay k).run bN bh=.ok (am j4 (y c) cM) bh:=by obtain rfl|rfl|rfl|rfl:=(U:k=0\/k=1\/k=2\/k=3);exact⟨m0,C,t,r0,b0,k0,U,ar,λ_=>aH⟩;exact⟨m1,D,c1,r1,b1,k1,U,ar,λ_=>aH⟩;exact⟨m2,E,c2,r2,b2,k2,U,ar,λ_=>aH⟩;exact⟨m3,F,c3,r3,b3,k3,U,ar,λ_=>aH⟩);have:(k:Y)<4:=U;have:=u k;have:=u<|k+1;generalize e++(([m0,m1,m2,m3].take k).map uC).flatten=P at*;have:=vq (n:=(y c:R)) U U;go_wp21;go_call(kT (y c:R) l V U U U)as K w4⟨v4,rfl,v,A⟩;go_wp2;(go_loopw [3,31] (λbm aa wr=>∃q:R,q<=y c/\aa=ay q/\fy wr (G<|H a) bm ((P++le 4 (y c:R))++(c.take q).flatMap IW)/\I aC a wr) (λ_ aa _=>y c-(intOf aa).toNat));exact⟨0,bQ _,z,dV v,(ak<|s.aj (I.fU A)<|λab S=>bj (T ab S).1)⟩;obtain⟨q,hq,rfl,f,i⟩:=hrel;have:=i.D;by_cases r:q<y c;(.obtain⟨_,⟨hx,h0⟩|⟨bi,B,cc,hx,_,hc⟩⟩:=ag HR;omega;cases hx;have hg:∀ab bg,ab<4->(cH.t c[q])[ab]?=M bg->bA wr (X bi<|B+q*4+ab)=M bg:=λab bg S b=>i.u (by rw[bJ];exact hc _ _<|(VH c q ab r S).trans b) id (HB bi z:bi<G (H a));have w:=HK _<|aB r;(have:y ((P++le 4 (y c:R))++(c.take q).flatMap IW)<=200000000000:=by have h1:=tR<|c.take q;unfold uC at h1;rw[ai,dh]at h1;(have:y (c.take q)<=3000000000:=by simp;omega);simp only[ai,dh];omega);have ad:=ak (show((P++le 4 (y c:R))++(c.take q).flatMap IW)++(le 8 (c[q].cK:R)++(le 4 (jM c[q].ks)++(le 4 (y<|iD c[q].ks)++le 4 (pt<|iD c[q].ks))))=(P++le 4 (y c:R))++(c.take<|q+1).flatMap IW from by rw[aG r,gR,<-cw];simp[IW]);have g0:=hg 0 _ U z;have g1:=hg 1 _ U z;have g2:=hg 2 _ U z;have g3:=hg 3 _ U z;have:=w.cK;have:=w.d;have:=w.i;have o4:=Ii<|iD c[q].ks;have o5:=Mq<|iD c[q].ks;simp only[ma]at g0 g1 g2 g3;generalize c[q].cK=y0 at*;generalize(jM c[q].ks)=y1 at*;generalize y (iD c[q].ks)=y2 at*;generalize pt (iD c[q].ks)=y3 at*;generalize((P++le 4 (y c:R))++(c.take q).flatMap IW)=B0 at*;have hE:C9 a (dw wr<|aK #[bw y0,eI y1,eI y2,eI y3] 234) (G<|H wr) (aK #[bw y0,eI y1,eI y2,eI y3] 234) u3 B0:=⟨f.aE _,aQ _ z,λK=>bP<|(f.lt _ K).2,i.aE _⟩;have z1:=rh (y0:R) hE.aZ hE.aA.D U U U;go_wp21;go_call z1 as K w5⟨v5,rfl,av,bb⟩;have m:=hE.lA bb av;have:=aX m.g 1;have z2:=kT (y1:R) m.aZ m.aA.D (by rw[ai,dh];omega) U U;go_wp21;go_call z2 as K w6⟨v6,rfl,ax,bc⟩;have o:=m.lA bc ax;have:=aX o.g 2;have z3:=kT (y2:R) o.aZ o.aA.D (by simp only[ai,dh];omega) U U;go_wp21;go_call z3 as K w7⟨v7,rfl,aD,bd⟩;have p:=o.lA bd aD;have:=aX p.g 3;have z4:=kT y3 p.aZ p.aA.D (by simp only[ai,dh];omega) o4 o5;go_wp21;go_call z4 as K w8⟨v8,rfl,aU,bf⟩;have L:=ak<|p.lA bf aU;go_wp2;go_roundw;refine⟨q+1,r,dM,?_,L.aA⟩;rw[<-ag ad];simpa using L.aZ;simp[intOf];omega);have m:q=y c:=U;subst m;rw[cQ]at f;go_wp2;go_roundw;refine⟨k+1,U,dM,?_,i⟩;rw[x];unfold uC;simpa using f;simp[intOf];omega);(.obtain rfl:k=4:=U;have:((4:R):Y)=4:=rfl;have c:=Gr (hT.dD (s.dD (aq _) cY) hT.lt) l V<|bP<|u 4;go_wp21;go_call c as K w4⟨v4,rfl,v,A⟩;go_wp2;go_ret;refine⟨_,z,?_,(ak<|s.aj (I.fU A)<|λab S=>bj (T ab S).1)⟩;have h:=v;unfold mi ij;rwa[(by rw[<-j];simp:e++(([m0,m1,m2,m3].take 4).map uC).flatten=le 8 next++le 8 g++le 8 b++([m0,m1,m2,m3].map uC).flatten)]at h))
def Ws(c:eD)(h:fo N B=dE):si (N++[(B,c)]) B=N:=by
 induction N with
 |nil=>simp[si]
 |cons g r b=>
  let⟨a,d⟩:=g;by_cases e:a=B
  .simp[fo,e]at h
  .simp[fo,e]at h;simp[si,e,b h]
def Wc(next c b:Y)(d:cy dI):ki (mi next c b d):=by
 unfold mi ij;refine(ki.jN ?_ ?_).jN<|ki.le 4 _;exact((ki.le 8 _).jN<|ki.le 8 _).jN<|ki.le 8 _;intro x a;let⟨l,e,a⟩:=dO.1 a;obtain⟨f,_,rfl⟩:=cC.1 e;unfold uC at a;obtain a|a:=aP.1 a;exact ki.le 4 _ x a;let⟨t,_,a⟩:=pU.1 a;unfold IW at a;simp only[aP]at a;obtain a|a|a|a:=a;exact ki.le 8 _ x a;exact ki.le 4 _ x a;exact ki.le 4 _ x a;exact ki.le 4 _ x a
def vr(a:eD):cy tY:=[.cr kE,.ap kE a,.sy kE]++[.rn kE fj]++[.sd]
def nQ{l m:cy tY}(h:mr (l++m) f x):∃a,mr l f a/\mr m a x:=by
 induction l generalizing f with
 |nil=>exact⟨f,⟨z,z,z⟩,h⟩
 |cons o l i=>
  let⟨a,c,d⟩:=h;let⟨b,e,g⟩:=i d;exact⟨b,⟨a,c,e⟩,g⟩
def Yi(g:R)(K:DK)(next c b:Y)(x0 x1 x2 x3:Option Addr)(F c1 c2 c3:R)(m0 m1 m2 m3:dI)(hT:Steps a)(r0:Row a 4 (am x0 (y m0) F) (y m0) (fX m0))(r1:Row a 4 (am x1 (y m1) c1) (y m1) (fX m1))(r2:Row a 4 (am x2 (y m2) c2) (y m2) (fX m2))(r3:Row a 4 (am x3 (y m3) c3) (y m3) (fX m3))(b0:∀C,cN (am x0 (y m0) F)=M C->C<G (H a))(b1:∀C,cN (am x1 (y m1) c1)=M C->C<G (H a))(b2:∀C,cN (am x2 (y m2) c2)=M C->C<G (H a))(b3:∀C,cN (am x3 (y m3) c3)=M C->C<G (H a))(k0:∀bb∈m0,bb.A)(k1:∀bb∈m1,bb.A)(k2:∀bb∈m2,bb.A)(k3:∀bb∈m3,bb.A)(hn:0<=next/\next<18446744073709551616)(hl:0<=c/\c<18446744073709551616)(hb:0<=b/\b<18446744073709551616)(hs:y m0+y m1+y m2+y m3<=3000000000)(k:cJ a g K)(bd:y K.l<=900000000000)(e:qp K.fx):cR bN 203 #[aJ g,ef #[bw next,bw c,bw b,am x0 (y m0) F,am x1 (y m1) c1,am x2 (y m2) c2,am x3 (y m3) c3]] a λL B=>wT a B g K (vr<|mi next c b [m0,m1,m2,m3]) L:=by
 let⟨aa,p⟩:∃aa,dw a (aK #[bw next,bw c,bw b,am x0 (y m0) F,am x1 (y m1) c1,am x2 (y m2) c2,am x3 (y m3) c3] 161)=aa:=⟨_,rfl⟩;have N:I aC a aa:=p▸(cI _ a);have T:Steps aa:=p▸hT.aE _;have d:∀{v n xs},Row a 4 v n xs->(∀C,cN v=M C->C<G (H a))->Row aa 4 v n xs:=λb c=>N.bV b aI;have hz:=N.D;have ax:=SS next c b x0 x1 x2 x3 F c1 c2 c3 m0 m1 m2 m3 T (d r0 b0) (d r1 b1) (d r2 b2) (d r3 b3) aI aI aI aI k0 k1 k2 k3 hn hl hb hs
 have O:=Wc next c b [m0,m1,m2,m3]
 have S:y (mi next c b [m0,m1,m2,m3])<=60000001000/\0<y (mi next c b [m0,m1,m2,m3]):=by unfold mi;rw[iA];simp only[ai,dh,bO,gA,di,jz,eE,tR];omega
 have av:=λl(v1:ae)(ht:I aC aa l)(ho:fy l (G<|H aa) v1 (mi next c b [m0,m1,m2,m3]))=>show∃bc ap,v1=bX bc 0 (y<|mi next c b [m0,m1,m2,m3]) ap/\cR bN 258 #[aJ g,aw kE,v1] l λL B=>wT l B g K [.cr kE,.ap kE<|mi next c b [m0,m1,m2,m3],.sy kE] L from by obtain⟨bc,ap,rfl,a1,a2,_⟩:=vu ho S.2;have aD:I aC a l:=N.t ht;exact⟨bc,ap,z,Nc (db:=g) (K:=K) kE bc 0 ap (w:=l) (k.aA aD<|λ_ _=>id) U e U O (Bytes.bU<|fy.bB ho) a2 (λb=>bP<|k.lt _ b) Sj⟩
 generalize mi next c b [m0,m1,m2,m3]=SB at*
 have r:∀o f,cJ o g f->Fx K.fx f.fx->mr [.cr kE,.ap kE SB,.sy kE] K f->cR bN 261 #[aJ g,aw kE,aw fj] o λL B=>wT o B g f [.rn kE fj] L:=by intro o f t aD u;have:=AK u;exact Vl kE fj t (λ_=>aD.D e) cg (by simp at this;omega) Sj
 have j:∀o f,cJ o g f->mr ([.cr kE,.ap kE SB,.sy kE]++[.rn kE fj]) K f->cR bN 112 #[aJ g] o λL B=>wT o B g f [.sd] L:=by intro o f t u;have:=AK u;exact Gc t (by simp at this;omega)
 have i:=ak k.L;have ab:=ak<|λl(ht:I aC aa l)=>(pR.bI k).bH<|N.t ht;let⟨E,s,ao⟩:=eU r j p;clear hT r0 r1 r2 r3 b0 b1 b2 b3 k0 k1 k2 k3 hn hl hb k e N T d hz O S r j p;go_in
 go_wp21;rw[ag ao];go_call ax as L l⟨v1,rfl,aU,V⟩;obtain⟨bc,ap,rfl,W⟩:=av l v1 V aU;have ac:=ak<|ab l V;unfold kE at W;go_wp21;go_call W as L o⟨v2,f,rfl,w⟩;have A:=vT.t i ac (show mr [] K K from⟨z,z,z⟩) w;obtain⟨rfl,o2⟩|⟨bf,q,ap,r1,r2,rfl,r3⟩:=w.d;rotate_left;(.have D:=ak<|vT.jj (m:=[.sd])<|vT.jj (m:=[.rn kE fj]) A;go_wp2;go_ret;exact⟨_,f,z,D⟩);have P:=E o f w.D.ok A.D.fx o2;have ad:=ak A.D;unfold kE fj at P;go_wp21;go_call P as L w3⟨v3,K3,rfl,x⟩;have Q:=vT.t i ad o2 x;obtain⟨rfl,o3⟩|⟨bf,q,ap,r1,r2,rfl,r3⟩:=x.d;rotate_left;(.have D:=ak<|vT.jj (m:=[.sd]) Q;go_wp2;go_ret;exact⟨_,K3,z,D⟩);have ba:=s w3 K3 x.D.ok<|mr.EZ o2 o3;have al:=ak Q.D;have an:=ak<|mr.EZ o2 o3;go_wp21;go_call ba as L w4⟨v4,K4,rfl,aV⟩;have D:=ak<|vT.t i al an aV;go_wp2;go_ret;exact⟨_,K4,z,D⟩
def JX(a:Fs)(b:cy af):Fs:=b.foldl si a
def Me{m:af}(h:m≠B):fo (si N B) m=fo N m:=by
 induction N with
 |nil=>rfl
 |cons g r c=>
  let⟨b,d⟩:=g;by_cases e:b=B
  .simp only[si,e,mS,fo];rw[fM<|λc=>h c.symm]
  .by_cases a:b=m
   .subst a;simp only[si,fM h,fo,mS]
   .simp only[si,fM e,fo,fM a,c]
theorem vI{a:cy af}(h:B∉a):fo (JX N a) B=fo N B:=by
 induction a generalizing N with
 |nil=>rfl
 |cons n r b=>
  show fo (JX (si N n) r) B=fo N B;rw[b (λc=>h<|by simp[c]),Me aI]
def GM{a:cy af}(h:mr (a.map .rm) f x):vw x.ah=JX (vw f.ah) a/\y x.l=y f.l+y a:=by
 induction a generalizing f with
 |nil=>exact⟨by rw[h.1];rfl,by rw[h.2.2];rfl⟩
 |cons n r i=>
  let⟨j,⟨F,l,_,b,k,c⟩,g⟩:=h;let⟨d,e⟩:=i g;refine⟨?_,by rw[e,c];simp;omega⟩;rw[d,b,vp];rfl
def Gy{K:DK}(ad:ae)(c:cy af)(h:cU a b o r)(x:cJ a o.f K)(hn:¬K.j o.f b)(hr:Row a 1 ad (y c) (c.map Value.string))(hv:∀ac,cN ad=M ac->ac<G (H a)/\¬K.j o.f ac)(B:c≠[]->qp K.fx)(hm:y K.l+y c<=1000000000000)(aa:∀an∈c,Nm an):cR bN 75 #[aJ b,ad] a λC w'=>wT a w' o.f K (c.map .rm) C:=by
 have:=az h;have k:=ak x.L;obtain⟨g,⟨rfl,Q⟩|⟨al,i,P,rfl,T,S⟩⟩:=hr;(.obtain rfl:=bG Q;have s:=ak<|pR.bI x;(go_in);go_wp2;(go_loopw [10] (λF wr=>F=ay 0/\wr=a) (λ_ _=>0));(grind);obtain⟨rfl,d⟩:=hrel;subst wr;go_wp2;go_ret;exact⟨_,K,z,s,J ⟨z,z,z,z⟩⟩)
 .have D:=hv al z;let⟨HB,N,O,t⟩:=jr h S hn<|pR.bI x;go_in
  go_wp2;go_loopw [10] (λF wr=>∃(m:R)(p:DK),m<=y c/\F=ay m/\pR a wr o.f K p/\mr ((c.take m).map .rm) K p) (λF _=>y c-(intOf F).toNat)
  .exact⟨0,K,bQ _,z,t,z,z,z⟩
  .obtain⟨m,p,V,rfl,j,d⟩:=hrel;by_cases f:m<y c
   .have:bA wr (X al<|i+m)=M (aw c[m]):=j.aA.u (N m _ (by rw[fO,bF f];rfl)) D.2 D.1;have w:=HB.aA j.aA O;have:=cU.bW w 2 z;let⟨ab,W⟩:=GM d;have:y (c.take m)=m:=by rw[dX];omega
    have A:=Ju c[m] j.ok (λ_=>j.fx.D<|B (by intro C;rw[C]at f;simp at f)) U aI;have l:(c.take<|m+1).map tY.rm=(c.take m).map .rm++[.rm c[m]]:=by rw[aG f,bz];rfl
    have E:(c.take<|m+1).map tY.rm<+:c.map .rm:=aI;generalize c[m]=L at*;go_wp21;go_call A as C w1⟨v1,n,rfl,g⟩;have e:=vT.t k j d g;rw[<-l]at e;obtain⟨rfl,o1⟩|⟨ap,q,ao,r1,r2,rfl,r3⟩:=g.d
    .let⟨u,v⟩:=And.intro (ak e.D) (ak (show mr ((c.take<|m+1).map .rm) K n by rw[l];exact mr.EZ d o1));go_wp2;go_roundw
     .exact⟨m+1,n,f,dM,u,v⟩
     .simp[intOf];omega
    .have u:=ak (show vT a w1 o.f K n (c.map .rm) (eW q)from⟨e.D,by
      obtain⟨C,_⟩|⟨l',q',v,av,m9⟩:=e.d
      .cases C
      grind⟩)
     go_wp2;go_ret;exact⟨_,n,z,u⟩
   .have e:m=y c:=U;subst e;rw[cQ]at d;let⟨s,l⟩:=And.intro (ak j) (ak d);go_wp2;go_ret;exact⟨_,p,z,s,J ⟨z,l⟩⟩
def NT.mF.zB{p q:NT}(h:p.mF q):q.mF p:=λk d c=>h k c d
def A7{ps:cy NT}(h:ps.Pairwise NT.mF){p q:NT}(j:p∈ps)(k:q∈ps)(g:p≠q):p.mF q:=by
 obtain⟨i,d,rfl⟩:=lG.1 j;obtain⟨l,f,rfl⟩:=lG.1 k;rw[cW]at h;obtain c|c|c:=mT i l;grind
 grind
 exact(h l i f d c).zB
def JD{w k:Z}{n6 s c u j t d:R}{l:iE}(h:fD w n6 s c (bX j 0 t d) u l)(r:k.heap[j]?=w.heap[j]?):fD k n6 s c (bX j 0 t d) u l:=by
 refine⟨h.1,bj ?_⟩;obtain⟨n,_⟩|⟨v,g,f,n,o,p,q⟩:=h.2;cases n;cases n;exact⟨j,d,f,z,o,r.trans p,q⟩
structure Dl(w:Z)(db:R)(A:fB)(t:cH):Prop where
 D:∃bb boff vV,mQ w t.tb (aJ db) t.cK (jM t.ks) (y<|iD t.ks) (pt<|iD t.ks) bb boff vV aF t.ks/\A bb
 l:A t.tb
 cK:t.cK<18446744073709551616
 jV:ny t.ks
def qE.h{w:Z}{db:R}{c:Fs}{A:fB}{t:cH}(h:qE w db c A t):Dl w db A t:=⟨h.D,h.l,h.cK,h.jV⟩
def Dl.A{w w':Z}{db:R}{A:fB}{t:cH}(h:Dl w db A t)(g:∀l,A l->w'.heap[l]?=w.heap[l]?):Dl w' db A t:=by
 let⟨j,d,c,k,f⟩:=h.D;exact⟨⟨j,d,c,k.dU (g _ h.l)<|g _ f,f⟩,h.l,h.cK,h.jV⟩
def Dl.Ao{w:Z}{db:R}{A B:fB}{t:cH}(h:Dl w db A t)(g:Fs)(f:∀n,A n->B n):qE w db g B (ja g t):=by
 let⟨j,d,c,l,k⟩:=h.D;exact⟨⟨j,d,c,l,f _ k⟩,f _ h.l,h.cK,h.jV,z⟩
structure CF(w:Z)(db sb base:R)(K:DK)(a:dI)(ps:cy NT)(T:dI):Prop where
 le:base<=G (H w)
 j:∀k,K.j db k->k<base
 B:sb<base
 xt:∀t∈T,XT a ps t
 kg:(T.map cH.tb).Nodup
 fp:ps.Pairwise NT.mF
 S:∀p∈ps,p.Ok w base/\Kt p.t
 i:MU db sb base K 1
 n:MU db sb base K 2
 f:y T<=3000000000
 d:qp K.fx
 L:K.fx.ok
 l:y K.l<=100000000000
def Wr(db:R)(K:DK)(ps:cy NT)(k:R):Prop:=K.j db k\/∃p∈ps,k=p.t.tb\/k=p.x
def lw(us:dI):cy tY:=us.flatMap<|λu=>tK u.cK u.cs
def TW(us:dI)(u:cH):lw (us++[u])=lw us++tK u.cK u.cs:=by simp[lw]
def Y3(us:dI):y (lw us)=3*y us:=by
 induction us with
 |nil=>rfl
 |cons u r c=>
  have:lw (u::r)=tK u.cK u.cs++lw r:=by simp[lw]
  rw[this,ai,c,bK];simp[tK];omega
structure NwT(u:cH):Prop where
 ks:u.ks=dK 0 u.cs
 ok:Kt u
 cK:u.cK<18446744073709551616
structure CM(w:Z)(db sb base:R)(K:DK)(a:dI)(ps:cy NT)(T:dI)(wr:Z)(b:DK)(us e:dI)(i dz:R):Prop where
 dL:y us=i
 le:i<=y T
 bM:us.map (λt=>(t.tb,t.ks))=(T.take i).map (λt=>(t.tb,t.ks))
 qN:∀t∈a,qE wr db (vw K.ah) (MU db sb base K) t
 S:∀u∈us,u∈a\/u∈e/\∃p∈ps,p.t.tb=u.tb/\Dl wr db p.D u
 D:∀p∈ps,p.t∈T.drop i->p.Ok wr base
 fx:Fx K.fx b.fx
 lM:mr (lw e) K b
 YE:y e<=i
 L:∀u∈e,u∈us/\NwT u
 nl:dz<18446744073709551616
 f:cJ wr db b
 l:y b.l<=y K.l+i
 aA:I (Wr db K ps) w wr
 j:∀k,b.j db k->K.j db k\/G (H w)<=k
 o:Steps wr
 x:Pow wr
section
variable{w wr w2:Z}{db j3 n6:R}{K b m:DK}{a:dI}{ps:cy NT}{T us e:dI}{i dz:R}
def CM.A(h:CF w db j3 n6 K a ps T)(k:∀t∈a,qE w db (vw K.ah) (MU db j3 n6 K) t)(d:cJ w db K)(n:Steps w)(c:Pow w)(g:dz<18446744073709551616):CM w db j3 n6 K a ps T w K [] [] 0 dz where
 dL:=rfl
 le:=bQ _
 bM:=ar
 qN:=k
 S:=ar
 D:=λp c _=>(h.S p c).1
 fx:=Fx.bI _
 lM:=⟨z,z,z⟩
 YE:=aq _
 L:=ar
 nl:=g
 f:=d
 l:=aq _
 aA:=I.bI _ _
 j:=λ_ h=>J h
 o:=n
 x:=c
def YN(h:us.map (λt=>(t.tb,t.ks))=(T.take i).map (λt=>(t.tb,t.ks))):us.map cH.tb=(T.take i).map cH.tb:=by
 have:=cD (List.map Prod.fst) h;grind[map_map,Function.comp_def]
def U3(j:(T.map cH.tb).Nodup)(g:i<y T)(h:us.map (λt=>(t.tb,t.ks))=(T.take i).map (λt=>(t.tb,t.ks))):∀u∈us,u.tb≠T[i].tb:=by
 intro u l d;have c:u.tb∈(T.take i).map cH.tb:=by rw[<-YN h];grind
 rw[d]at c;let⟨t,k,f⟩:=cC.1 c;grind[mem_iff_getElem,length_take,pairwise_iff_getElem]
def Jp(c:i<y T)(h:us.map (λt=>(t.tb,t.ks))=(T.take i).map (λt=>(t.tb,t.ks)))(u:cH)(d:(u.tb,u.ks)=(T[i].tb,T[i].ks)):(us++[u]).map (λt=>(t.tb,t.ks))=(T.take<|i+1).map (λt=>(t.tb,t.ks)):=by
 rw[aG c,bz,bz,h];grind
def CM.t(_:CF w db j3 n6 K a ps T)(hm:CM w db j3 n6 K a ps T wr b us e i dz)(d:i<y T)(g:T[i]∈a):CM w db j3 n6 K a ps T wr b (us++[T[i]]) e (i+1) dz:=by
 refine{hm with dL:=by rw[ai,hm.dL];rfl,le:=d,bM:=Jp d hm.bM _ z,S:=?_,D:=?_,YE:=bP hm.YE,L:=λu c=>⟨gX _ (hm.L u c).1,(hm.L u c).2⟩,l:=bP hm.l};intro u c;obtain f|f:=aP.1 c;exact hm.S u f;rw[bY.1 f];exact J g;intro p f h;apply hm.D p f;rw[<-mf d];grind
def CM.lA(h:CF w db j3 n6 K a ps T)(c:CM w db j3 n6 K a ps T wr b us e i dz)(F:i<y T){p:NT}(E:p∈ps)(t:p.t=T[i])(hd:cJ w2 db m)(ht:I (λk=>b.j db k\/k=p.t.tb\/k=p.x) wr w2)(hf:∀k,m.j db k->b.j db k\/G (H wr)<=k)(O:mr (tK dz p.t.cs) b m)(W:Fx b.fx m.fx)(hT:mQ w2 p.t.tb (aJ db) dz (y<|gD p.t.cs) (y<|iD<|dK 0 p.t.cs) (pt<|iD<|dK 0 p.t.cs) p.bb 0 p.vV aF (dK 0 p.t.cs)):CM w db j3 n6 K a ps T w2 m (us++[{T[i]with cK:=dz}]) (e++[{T[i]with cK:=dz}]) (i+1) ((dz+1) %18446744073709551616):=by
 have r:=(h.S p E).1;have:=c.aA.D;have:=h.le
 have u:∀k,k<G (H w)->¬K.j db k->¬p.D k->w2.heap[k]?=wr.heap[k]?:=λk s P g=>ht.A k U (λd=>by
  obtain d|d|d:=d
  .obtain V|V:=c.j k d
   .exact P V
   .omega
  .exact g<|J d
  .exact g (bj (bj d)))
 have v:∀k,MU db j3 n6 K k->w2.heap[k]?=wr.heap[k]?:=λk s=>u k (bP s.1) s.2.1<|λd=>gV ((r.lt k d).1) s.1;have n:∀q∈ps,q≠p->∀k,q.D k->w2.heap[k]?=wr.heap[k]?:=λq B C k s=>by have g:=(h.S q B).1.lt k s;exact u k g.2 (λd=>bP<|h.j k d)<|A7 h.fp B E C k s
 have A:=(h.S p E).2;have N:Dl w2 db p.D {T[i]with cK:=dz}:=by rw[<-t];refine⟨⟨p.bb,0,p.vV,?_,bj<|J z⟩,J z,c.nl,?_⟩;show mQ w2 p.t.tb _ dz (jM p.t.ks) (y<|iD p.t.ks) (pt<|iD p.t.ks) p.bb 0 p.vV _ p.t.ks;rwa[r.ks,yi];show ny p.t.ks;rw[r.ks];exact A.jV
 refine{dL:=by rw[ai,c.dL];rfl,le:=F,bM:=Jp F c.bM _ z,qN:=λad h0=>(c.qN ad h0).A v,S:=?_,D:=?_,fx:=c.fx.aj W,lM:=?_,YE:=by rw[ai];have:=c.YE;simp;omega,L:=?_,nl:=oh _ cg,f:=hd,l:=gV c.l<|Ow O,aA:=?_,j:=?_,o:=?_,x:=?_};intro ab hu;obtain d|d:=aP.1 hu;obtain V|⟨P,q,B,aa,Q⟩:=c.S ab d;exact J V;refine bj ⟨gX _ P,q,B,aa,?_⟩;by_cases g:q=p;subst g;exfalso;exact U3 h.kg F c.bM ab d (by rw[<-aa,t]);exact Q.A<|n q B g;rw[bY]at d;subst d;exact bj ⟨ar,p,E,by rw[t],N⟩;intro q B P;(have C:q≠p:=λaa=>by subst aa;rw[t]at P;let⟨ac,hj,aa⟩:=lG.1 P;rw[rN]at aa;have:=cW.1 h.kg i (i+1+ac) (dV F) (by simpa using(by rw[iY]at hj;omega:i+1+ac<y T)) U;grind);have g:=c.D q B (by rw[<-mf F];grind);have Q:=n q B C;exact⟨g.ks,g.cK,g.f,g.D.dU (Q _<|J z)<|Q _<|bj<|J z,JD g.A<|Q _<|bj<|bj z,JD g.L<|Q _<|bj<|J z,g.lX⟩;rw[TW];rw[(by rw[t]:({T[i]with cK:=dz}:cH).cs=p.t.cs)];exact mr.EZ c.lM O;intro ab hu;obtain d|d:=aP.1 hu;exact⟨gX _ (c.L ab d).1,(c.L ab d).2⟩;rw[bY]at d;subst d;refine⟨ar,?_⟩;rw[<-t];exact⟨r.ks,⟨A.p,A.jV,A.f⟩,c.nl⟩;refine c.aA.aj ht<|λk s=>?_;obtain d|d|d:=s;obtain V|V:=c.j k d;exact J<|J V;exact bj V;exact J<|bj ⟨p,E,J d⟩;exact J<|bj ⟨p,E,bj d⟩;intro k s;obtain d|d:=hf k s;exact c.j k d;exact bj U;exactλk s=>(dZ (w:=wr)<|v _ h.i).trans<|c.o k s;exact c.x.dU<|v _ h.n
def Wd{c:iF}(h:∀d∈c,∀x∈d,x.Good):ki (gD c):=by
 induction c with
 |nil=>intro x f;simp[gD]at f
 |cons d r g=>
  rw[qS];exact((Pp<|h d ar).jN<|ki.le 4 _).jN aI
structure CmB(w w':Z)(db:R)(K K':DK)(ps:cy NT)(q:R):Prop where
 ok:cJ w' db K'
 aA:I (Wr db K ps) w w'
 j:∀k,K'.j db k->K.j db k\/G (H w)<=k
 fx:Fx K.fx K'.fx
 lM:∃l e,l<+:lw e/\mr l K K'/\y e<=3000000000/\∀u∈e,NwT u
 f:∃c,rC w' q c/\Xo K.fx c
def CM.p(h:CF w db j3 n6 K a ps T)(c:CM w db j3 n6 K a ps T wr b us e i dz)(Q:i<y T){p:NT}(l:p∈ps)(n:p.t=T[i]):cR bN 201 #[aJ<|T[i].tb,aJ db,bw dz] wr λab C=>∃S s,ab=aN S/\((S=ib/\∃B A,CM w db j3 n6 K a ps T C s B A (i+1)<|(dz+1) %18446744073709551616)\/∃q,S=eW q/\CmB w C db K s ps q):=by
 have d:=c.D p l (by rw[n,<-mf Q];grind);have f:=(h.S p l).2;have t:=(h.S p l).1.lt;have k:∀o,p.D o->¬b.j db o:=λo r g=>by obtain D|D:=c.j o g;have:=h.j o D;have:=(t o r).1;omega;have:=(t o r).2;omega
 have v:p.bb≠p.t.tb:=by let⟨u,P⟩:=fZ d.L (k:=p.bb) rfl;exact lj P d.D.g cg
 have x:p.bb≠p.x:=by let⟨u,P⟩:=fZ d.L (k:=p.bb) rfl;let⟨E,aa⟩:=fZ d.A (k:=p.x) rfl;grind
 have j:=d.D;rw[d.ks]at j;rw[<-n];refine(KG dz c.nl p.x p.IX p.t.cs j d.A (gV h.le c.aA.D) f.jV (Wd f.p.S) c.o c.x f.f c.f (Lw c.l h.l h.f) (c.fx.D h.d:qp b.fx) (k _<|bj<|bj z) (k _<|J z) (k _<|bj<|J z) v x).mono ?_;rintro ab C⟨S,s,rfl,F,L,N,O,⟨rfl,V,W⟩|⟨ac,q,g,r1,r2,rfl,r3,r4⟩⟩;exact⟨_,s,z,J ⟨z,_,_,c.lA h Q l n F L N V O W⟩⟩;refine⟨_,s,z,bj ⟨q,z,F,?_,?_,c.fx.aj O,⟨lw e++ac,e++[{p.t with cK:=dz}],?_,mr.EZ c.lM r2,?_,?_⟩,g,r3,c.fx.A h.L r4⟩⟩;refine c.aA.aj L<|λo r=>?_;obtain g|g|g:=r;obtain D|D:=c.j o g;exact J<|J D;exact bj D;exact J<|bj ⟨p,l,J g⟩;exact J<|bj ⟨p,l,bj g⟩;intro o r;obtain g|g:=N o r;exact c.j o g;exact bj<|aR c.aA.D g;rw[TW];exact(iu _).2 r1;rw[ai];have:=c.YE;have:=h.f;simp;omega;intro aa E;obtain g|g:=aP.1 E;exact(c.L aa g).2;rw[bY.1 g];exact⟨(h.S p l).1.ks,⟨f.p,f.jV,f.f⟩,c.nl⟩
end
def J4{w:Z}(f g h j:Option Addr)(d c1 c2 c3:R)(k l n o:dI)(s:Row w 1 (.slice f (y k) d) (y k) (k.map cH.D))(t:Row w 1 (.slice g (y l) c1) (y l) (l.map cH.D))(u:Row w 1 (.slice h (y n) c2) (y n) (n.map cH.D))(v:Row w 1 (.slice j (y o) c3) (y o) (o.map cH.D))(A:∀p,cN (.slice f (y k) d)=M p->p<G (H w))(B:∀p,cN (.slice g (y l) c1)=M p->p<G (H w))(C:∀p,cN (.slice h (y n) c2)=M p->p<G (H w))(D:∀p,cN (.slice j (y o) c3)=M p->p<G (H w))(x:y (k++l++n++o)<=20000000000):Fw (dw w<|aK #[.slice f (y k) d,.slice g (y l) c1,.slice h (y n) c2,.slice j (y o) c3] 108) (G<|H w) 0 [(.slice f (y k) d,k),(.slice g (y l) c1,l),(.slice h (y n) c2,n),(.slice j (y o) c3,o)]:=by
 have c:I aC w (dw w<|aK #[.slice f (y k) d,.slice g (y l) c1,.slice h (y n) c2,.slice j (y o) c3] 108):=(cI _ _);have q:(dw w<|aK #[.slice f (y k) d,.slice g (y l) c1,.slice h (y n) c2,.slice j (y o) c3] 108).heap[G<|H w]?=M (aK #[.slice f (y k) d,.slice g (y l) c1,.slice h (y n) c2,.slice j (y o) c3] 108 (0,0)):=aQ _ z;refine⟨z,λi r=>?_,λi r=>?_,λi r=>?_,by rw[UD];omega⟩;have:i=0\/i=1\/i=2\/i=3:=aI;obtain rfl|rfl|rfl|rfl:=this<;>(rw[cE q];rfl);have:i=0\/i=1\/i=2\/i=3:=aI;obtain rfl|rfl|rfl|rfl:=this;exact c.bV s aI;exact c.bV t aI;exact c.bV u aI;exact c.bV v aI;grind
def SR.pV(s:SR)(a b c d:ae)(n dz:R):SR:={s with L:=aF,o:=0,S:=n,l0:=a,l1:=b,l2:=c,l3:=d,t:=(dz+1) %18446744073709551616,l:=dz,i:=bD,mw:=bD,k:=bD,x:=bD}
def U7{g:dI}(h:l.map (λt=>(t.tb,t.ks))=(v++C++F++g).map (λt=>(t.tb,t.ks))):∃a b c d,l=a++b++c++d/\a.map (λt=>(t.tb,t.ks))=v.map (λt=>(t.tb,t.ks))/\b.map (λt=>(t.tb,t.ks))=C.map (λt=>(t.tb,t.ks))/\c.map (λt=>(t.tb,t.ks))=F.map (λt=>(t.tb,t.ks))/\d.map (λt=>(t.tb,t.ks))=g.map (λt=>(t.tb,t.ks)):=by
 rw[bz,bz,bz]at h;obtain⟨x,d,rfl,e,j⟩:=jy.1 h;obtain⟨i,c,rfl,f,k⟩:=jy.1 e;obtain⟨a,b,rfl,m,n⟩:=jy.1 f;grind
def qz(h:l.map (λt=>(t.tb,t.ks))=v.map (λt=>(t.tb,t.ks))):l.map cH.D=v.map cH.D/\y l=y v/\ik l=ik v:=by
 have a:=cD (List.map (λp:R×la=>ee<|M<|X p.1 0)) h;have b:=cD (λa=>(a.map (λp:R×la=>qC p.2)).sum) h;simp only[iV,kK]at a b;exact⟨a,dV<|cD y h,b⟩
def Rb(dz n:R)(a:cy dI):eD:=mi (((dz+1) %18446744073709551616:R):Y) dz n a
def Us(w c:Z)(b:R)(s:SR)(k:Y)(r C:R)(K:DK)(l:cy NT)(v x A B:ae)(n o p q j:dI):Prop:=∃(m wr:Z)(i a:DK)(h u d e f g:dI)(dz:R),I aC w m/\CM m s.f b r K j l (n++o++p++q) wr i h u (y<|n++o++p++q) dz/\h=d++e++f++g/\d.map (λt=>(t.tb,t.ks))=n.map (λt=>(t.tb,t.ks))/\e.map (λt=>(t.tb,t.ks))=o.map (λt=>(t.tb,t.ks))/\f.map (λt=>(t.tb,t.ks))=p.map (λt=>(t.tb,t.ks))/\g.map (λt=>(t.tb,t.ks))=q.map (λt=>(t.tb,t.ks))/\cU c b (s.pV v x A B C dz) k/\cJ c s.f a/\(∀k,k<G (H w)->¬K.j s.f k->k≠b->c.heap[k]?=wr.heap[k]?)/\I (λk=>Wr s.f K l k\/k=b) w c/\(∀k,a.j s.f k->K.j s.f k\/G (H w)<=k)/\Fx K.fx a.fx/\mr (vr (Rb dz C [d,e,f,g])++(oa s j h).map .rm) i a
def Q2(s:SR)(K d:DK)(N:R):Prop:=∃(l:cy tY)(b:dI)(c:eD)(a:cy af),l<+:lw b++(vr c++a.map .rm)/\mr l K d/\y b<=3000000000/\(∀u∈b,NwT u)/\y c<=20*N+44/\y a<=3000000001/\∀n∈a,Nm n
structure CmE(w w':Z)(sb:R)(s:SR)(k:Y)(K K':DK)(ps:cy NT)(N:R)(v:ae):Prop where
 ok:cJ w' s.f K'
 aA:I (λk=>Wr s.f K ps k\/k=sb) w w'
 j:∀k,K'.j s.f k->K.j s.f k\/G (H w)<=k
 fx:Fx K.fx K'.fx
 g:∃s',cU w' sb s' k/\s'.d=s.d/\s'.f=s.f
 f:∃q c,v=eW q/\rC w' q c/\Xo K.fx c
 lM:Q2 s K K' N
def CmW(w c:Z)(a:R)(s:SR)(p:Y)(f q:R)(K:DK)(b:cy NT)(g h i j:ae)(k l m n e:dI)(o:Ending):Prop:=(o=aN ib/\Us w c a s p f q K b g h i j k l m n e)\/∃v d,o=aN v/\CmE w c a s p K d b (y<|k++l++m++n) v
def TB(dz n:R)(a b c d:dI):y (Rb dz n [a,b,c,d])=20*y (a++b++c++d)+44:=by
 unfold Rb mi;rw[iA];simp only[ai,dh,bO,gA,di,jz,eE,tR];omega
def Ps(s:SR)(a b:dI)(h:y a<=3000000000):y (oa s a b)<=3000000001:=by
 unfold oa;rw[ai,cS];have:y (rq a b)<=y a:=gM _ _;split<;>simp<;>omega
def M2(b:o.l<18446744073709551616)(h:∀t∈l,t.cK<18446744073709551616):∀n∈oa o l v,Nm n:=by
 intro n a;unfold oa at a;obtain q|q:=aP.1 a;split at q;rw[bY.1 q];exact wK b;simp at q;obtain⟨t,c,rfl⟩:=cC.1 q;exact zM<|h t (lQ.1 c).1
def CG{g i n:R}{c:Array ae}{T:TypeId}(h:a.heap[g]?=M (aK c T (0,0)))(j:fD e (G<|H a) 234 4 d n Q)(l:gC (G<|H a) a e):∃b,cP e (X g i) d=b/\e.heap[g]?=M (aK c T (0,0))/\b.heap[g]?=M (aK (c.setIfInBounds i d) T (0,0))/\I (λm=>m=g) a b/\fD b (G<|H a) 234 4 d n Q:=by
 have k:I aC a e:=I.p l;have f:=(k.A g (az h) id).trans h;exact⟨_,z,f,aY f,(k.aT (T:=λm=>m=g) cY).aL _ _ _<|J z,j.kept (eG _ _ _ _)<|bj<|λq=>gV ((j.lt _ q).1)<|az h⟩
def Qa{s:SR}(n6 pc bq:R)(ps:cy NT)(v0 v1 v2 v3:ae)(ba bb N bc a0 b0 c0 d0:dI)(h:cU a b s r)(hL:LS a s.f b n6 f (a0++b0++c0++d0) ps pc v0 v1 v2 v3 ba bb N bc)(hF:∀bn,I aC a bn->CF bn s.f b n6 f (a0++b0++c0++d0) ps (ba++bb++N++bc))(hY:Fw a b 10 [(s.l0,a0),(s.l1,b0),(s.l2,c0),(s.l3,d0)])(mb:cJ a s.f f)(gv:¬f.j s.f b)(pe:bq<18446744073709551616)(ln:s.t<18446744073709551616)(hW:s.l<18446744073709551616)(ls:y (a0++b0++c0++d0)<=3000000000)(bi:∃ea bq N,s.L=am ea bq N)(hX:∀bm,bm=s.l0\/bm=s.l1\/bm=s.l2\/bm=s.l3->∀r,cN bm=M r->MU s.f b n6 f r):cR bN 133 #[aJ b,ef #[v0,v1,v2,v3],bw bq] a λdT w'=>CmW a w' b s r n6 bq f ps v0 v1 v2 v3 ba bb N bc (a0++b0++c0++d0) dT:=by
 obtain⟨x0,i,rfl⟩:=cG hL.r0;obtain⟨x1,j,rfl⟩:=cG hL.r1;obtain⟨x2,k,rfl⟩:=cG hL.r2;obtain⟨x3,l,rfl⟩:=cG hL.r3;have lE:=hL.A;have hT:y (ba++bb++N++bc)<=3000000000:=aI;have gc:=J4 x0 x1 x2 x3 i j k l ba bb N bc hL.r0 hL.r1 hL.r2 hL.r3 (λr c=>(hL.b0 r c).1) (λr c=>(hL.b1 r c).1) (λr c=>(hL.b2 r c).1) (λr c=>(hL.b3 r c).1) U;obtain⟨WB,dk⟩:=og<|dw a<|aK #[am x0 (y ba) i,am x1 (y bb) j,am x2 (y N) k,am x3 (y bc) l] 108;rw[dk]at gc;obtain⟨cT,jH⟩:=og<|ba++bb++N++bc;have cs:=uz _ gc;rw[TR,UD,jH]at cs;have hb:I aC a WB:=by rw[<-dk];exact(cI _ _)
 have hy:WB.heap[G<|H a]?=M (aK #[am x0 (y ba) i,am x1 (y bb) j,am x2 (y N) k,am x3 (y bc) l] 108 (0,0)):=by rw[<-dk];exact aQ _ z
 have hS:=(hb.A b (az h) id).trans h;have na:=cU.bW hS 14 z;rw[jH]at hF hT;obtain⟨HH,e,HF,kc,he,dd,bx,db⟩:=Zu h hL hF hb hy jH hY hX;have ka:=ak (show∀us,∀bq∈oa s (a0++b0++c0++d0) us,Nm bq fromλus=>M2 hW<|λbr ht=>(hL.sB br ht).cK);obtain⟨oS,oL,oB,bi⟩:=bi;have jK:=ak bi;clear h hL hF gc hb hy hS jH hY hX bi;go_in
 go_wp2_with fail
 apply cs.mono;rintro dT w1⟨oT,rfl,gk,gE⟩;obtain⟨xT,pd,lD⟩:=aM gk;subst lD;have F:I aC a w1:=kc.t gE;have fi:=HF w1 F;have hB:=mb.aA F<|λ_ _=>id;have hA:=CM.A fi (λbr h0=>(e.sB br h0).A<|λr c=>F.A r (gV c.1 e.le) id) hB (λr c=>F.u (e.o r c) id<|gV e.i.1 e.le) (e.x.aA F id) ln;obtain⟨hk,ao,aa,jI,an,bv,kd⟩:=zX gk F fi hA ((F.A b (az HH) id).trans HH) ((gE.A (G<|H a) (az he) id).trans he) (show G (H a)+1=G (H WB)by rw[<-dk];simp);clear gk gE F fi hA cs hB mb;go_wp2_with fail
 go_loopw [7,22] (λa dx wr=>∃(cM dz:R)(KR:DK)(us nw:dI),dx=ay cM/\a=bw dz/\CM w1 s.f b n6 f (a0++b0++c0++d0) ps cT wr KR us nw cM dz) (λ_ dx _=>y cT-(intOf dx).toNat)
 case atStart=>exact⟨0,s.t,f,[],[],rfl,rfl,jI⟩
 case round=>
  obtain⟨cM,dz,KR,us,nw,rfl,rfl,p⟩:=hrel;obtain⟨nx,er⟩:=og<|(dz+1) %18446744073709551616;have oc:=p.nl;have hc:IntKind.u64.wrap ((dz:Y)+1)=(nx:Y):=by rw[dY];omega
  have mn:nx<18446744073709551616:=U;have dc:=ak er;clear er;have ob:=e.le;have mo:=e.B;have bo:∀r,G (H a)<=r->¬Wr s.f f ps r:=by
   rintro r c(N|⟨bs,hp,N|N⟩)
   .have:=e.j r N;omega
   .have:=((e.S bs hp).1.lt r<|J N).2;omega
   .have:=((e.S bs hp).1.lt r<|bj<|bj N).2;omega
  have gt:¬Wr s.f f ps b:=by
   rintro(N|⟨bs,hp,N|N⟩)
   .exact gv N
   .have:=((e.S bs hp).1.lt b<|J N).1;omega
   .have:=((e.S bs hp).1.lt b<|bj<|bj N).1;omega
  have od:=ag kd;have ap:=(p.aA.A b (az an) gt).trans an;by_cases cu:cM<y cT
  .have g:=p.aA.aZ hk<|λr c=>bo r<|bP<|(hk.lt r c).1;obtain⟨A,O,E⟩:∃A,xT=M (X A 0)/\bA wr (X A cM)=M cT[cM].D:=by
    obtain⟨h2,h0⟩|⟨B,d,kk,h2,_⟩:=g.2
    .omega
    .cases h2;refine⟨B,z,?_⟩;have:=ri g cM cT[cM].D (by rw[fO,bF cu];rfl);rwa[dS,ez]at this
   subst O;unfold cH.D at E;have e1:(cM:Y)<(y cT:Y):=U;obtain h0|⟨bs,hp,m⟩:=aa.xt cT[cM]<|aB cu
   .obtain⟨hd,ab,n,hm,_⟩:=(p.qN cT[cM] h0).D;have d:=Et _ hm;have D:=ak<|p.t aa cu h0;clear p g ap hm h0 bo;generalize cT[cM].tb=W at*;go_wp2_with fail
    apply d.mono;rintro dT w2⟨rfl,K⟩;subst w2;clear d;go_wp2;go_roundw;case rel=>exact⟨cM+1,dz,KR,_,_,dM,rfl,D⟩
    case measure=>simp[intOf];omega
   .have C:=p.D bs hp (by rw[m,<-mf cu];grind);have v:=FP C.D;rw[m]at v;have w:=p.p aa cu hp m;have c2:=cU.bW ap 2 z;clear p g ap C bo m hp;generalize cT[cM].tb=W at*;go_wp2_with fail
    apply v.mono;rintro dT w2⟨rfl,K⟩;subst w2;clear v;go_wp2_with fail
    apply w.mono;rintro dT w2⟨v2,K2,rfl,⟨rfl,Q,P,u⟩|⟨q,rfl,d⟩⟩;rotate_left
    .have HR:=ak<|show CmW a w2 b s r n6 bq f ps (am x0 (y ba) i) (am x1 (y bb) j) (am x2 (y N) k) (am x3 (y bc) l) ba bb N bc (a0++b0++c0++d0) (aN<|eW q)from bj ⟨_,K2,z,d.ok,(ao.aT (T:=λr=>Wr s.f f ps r\/r=b) cY).aj d.aA<|λ_ q=>J<|J q,λr c=>(d.j r c).imp id<|λN=>aR ao.D N,d.fx,⟨s,(d.aA.A b (az an) gt).trans an,z,z⟩,(by obtain⟨N,e1,e2⟩:=d.f;exact⟨q,N,z,e1,e2⟩),(by obtain⟨pb,YE,e1,e2,T,V⟩:=d.lM;exact⟨pb,YE,[],[],e1.trans<|qI _ _,e2,T,V,ar,ar,ar⟩)⟩;clear d w;go_wp2;go_ret;exact HR
    rw[ag dc]at u;have x:=ak u;clear u w;go_wp2;go_roundw;case rel=>exact⟨cM+1,nx,K2,Q,P,dM,by simp[hc],x⟩
    case measure=>simp[intOf];omega
  .have lg:cM=y cT:=bP p.le;rw[lg]at p;have hO:us.map (λbr=>(br.tb,br.ks))=(ba++bb++N++bc).map (λbr=>(br.tb,br.ks)):=by rw[p.bM,cQ,ag dd]
   obtain⟨a',b',c',d',aD,kl,ko,ks,kv⟩:=U7 hO;obtain⟨ey,eA,kn⟩:=qz kl;obtain⟨eB,fb,kq⟩:=qz ko;obtain⟨fd,fe,kt⟩:=qz ks;obtain⟨ff,fg,kx⟩:=qz kv;have gi:∀bm,sO a s.f b n6 f bm->∀r,cN bm=M r->¬Wr s.f f ps r:=by
    rintro bm hv r c(q|⟨bs,hp,q|q⟩)
    .exact(hv r c).2.1 q
    .have C:=(e.S bs hp).1;obtain B|⟨el,ip,B⟩:=(hv r c).2.2.2
     .have:=(C.lt r<|J q).1;omega
     .exact lj B C.D.g cg q
    .have C:=(e.S bs hp).1;obtain B|⟨el,ip,B⟩:=(hv r c).2.2.2
     .have:=(C.lt r<|bj<|bj q).1;omega
     .obtain⟨kk,ll⟩:=fZ C.A (k:=bs.x) rfl;grind
   have bk:I (Wr s.f f ps) a wr:=(ao.aT (T:=Wr s.f f ps) cY).aj p.aA<|λ_ q=>J q;have x:∀bm(ts d:dI),sO a s.f b n6 f bm->Row a 1 bm (y ts) (ts.map cH.D)->d.map cH.D=ts.map cH.D->y d=y ts->Row wr 1 bm (y d) (d.map cH.D):=λbm ts d hv hZ e1 e2=>by
    rw[e1,e2];exact bk.bV hZ<|λr c=>⟨gi bm hv r c,(hv r c).1⟩
   have hN:∀bl∈us,MK wr s.f bl:=λbl hu=>by
    have el:∀{F:fB},Dl wr s.f F bl->MK wr s.f bl:=λho=>by
     obtain⟨hd,ab,n,hm,_⟩:=ho.D;exact⟨hd,ab,n,hm⟩
    obtain q|⟨_,bs,_,_,q⟩:=p.S bl hu
    .exact el (p.qN bl q).h
    .exact el q
   have fr:∀bn,I aC wr bn->∀bl∈us,MK bn s.f bl:=λbn ht bl hu=>by
    obtain⟨hd,ab,n,hm⟩:=hN bl hu;exact⟨hd,ab,n,hm.dU (ht.A _ (az hm.g) id)<|ht.A _ hm.lt.2 id⟩
   have cv:∀bm(ts:dI),(∀br∈ts,br∈us)->y ts<=3000000000->(∀r,cN bm=M r->r<G (H wr))->Row wr 1 bm (y ts) (ts.map cH.D)->∀bn,I aC wr bn->cR bN 202 #[bm] bn λdT w'=>∃a,dT=aN a/\fD w' (G<|H bn) 234 4 a (y ts) (fX ts)/\gC (G<|H bn) bn w':=λbm ts el b c hZ bn ht=>by
    refine Sx bn s.f bm ts ⟨ht.bV hZ aI,λr dT=>au (c r dT) ht.D,λbr h=>(fr bn ht br<|el br h).XF,U⟩ aI U
   have pf:=bk.D;have em:=cv _ a' aI U (λr c=>bP<|(e.b0 r c).1)<|x _ ba a' e.b0 e.r0 ey eA;have en:=cv _ b' aI U (λr c=>bP<|(e.b1 r c).1)<|x _ bb b' e.b1 e.r1 eB fb;have eo:=cv _ c' aI U (λr c=>bP<|(e.b2 r c).1)<|x _ N c' e.b2 e.r2 fd fe;have eq:=cv _ d' aI U (λr c=>bP<|(e.b3 r c).1)<|x _ bc d' e.b3 e.r3 ff fg;obtain⟨hl,hn,hq,hr⟩:=jr (x _ ba a' e.b0 e.r0 ey eA) (x _ bb b' e.b1 e.r1 eB fb) (x _ N c' e.b2 e.r2 fd fe)<|x _ bc d' e.b3 e.r3 ff fg;have V:=(p.aA.A (G<|H a) (az bv)<|bo _<|aq _).trans bv;have cn:=aX V 0;have co:=aX V 1;have cp:=aX V 2;have cr:=aX V 3;have mm:=az V;have e1:¬(cM:Y)<(y cT:Y):=U;obtain⟨D,hg,hh,hi,hj,eb,bf⟩:=zX p em en eo eq ap bk;obtain⟨aV,hf,HEq,mx,ms,mv⟩:=nT aD V (And.intro kl (And.intro ko (And.intro ks kv))) bo fr gi;clear p cv em en eo eq ap bk aD V kl ko ks kv ey eA kn eB fb kq fd fe kt ff fg kx x hN fr gi bo hO gt;go_wp2_with fail
   obtain⟨d,il⟩:=og<|G<|H wr;obtain⟨W0,hQ⟩:=og<|dw wr<|aK #[bw nx,bw dz,bw bq,aF,aF,aF,aF] 161;have et:W0.heap[d]?=M (aK #[bw nx,bw dz,bw bq,aF,aF,aF,aF] 161 (0,0)):=by rw[<-hQ];exact aQ _ il.symm
   have ex:I aC wr W0:=by rw[<-hQ];exact(cI _ _)
   have bd:=ak et;have eg:=ak ex;clear et ex;have mc:∀bn,(Instr.index 108 (ef #[am x0 (y ba) i,am x1 (y bb) j,am x2 (y N) k,am x3 (y bc) l])<|ay 0).run bN bn=.ok (am x0 (y ba) i) bn:=λ_=>aH;have md:∀bn,(Instr.index 108 (ef #[am x0 (y ba) i,am x1 (y bb) j,am x2 (y N) k,am x3 (y bc) l])<|ay 1).run bN bn=.ok (am x1 (y bb) j) bn:=λ_=>aH;have me:∀bn,(Instr.index 108 (ef #[am x0 (y ba) i,am x1 (y bb) j,am x2 (y N) k,am x3 (y bc) l])<|ay 2).run bN bn=.ok (am x2 (y N) k) bn:=λ_=>aH;have mg:∀bn,(Instr.index 108 (ef #[am x0 (y ba) i,am x1 (y bb) j,am x2 (y N) k,am x3 (y bc) l])<|ay 3).run bN bn=.ok (am x3 (y bc) l) bn:=λ_=>aH;refine iW 5 ?_;rw[im];go_wp2_with fail
   apply(hg W0 eg).mono;rintro dT w2⟨m0,rfl,gd,P⟩;obtain⟨y0,z0,rfl⟩:=aM gd;obtain⟨W1,nv,v,W,m,ho⟩:=CG (i:=3) bd gd P;have g0:=aX v 3;have f0:=cV (i:=3) v;obtain⟨ck,ei,bE⟩:=eU W (eg.aj m<|λr c=>bj U) ho;clear W m v P gd ho;go_wp2_with fail
   rw[im];go_wp2_with fail
   apply(hh W1 ei).mono;rintro dT w2⟨m1,rfl,ge,P⟩;obtain⟨y1,z1,rfl⟩:=aM ge;obtain⟨W2,nK,v,W,m,ho⟩:=CG (i:=4) ck ge P;have g1:=aX v 4;have f1:=cV (i:=4) v;obtain⟨ec,ej,cb,bL⟩:=jr W (ei.aj m<|λr c=>bj U) ho<|m.aZ bE<|λr c q=>gV ((bE.lt r c).1)<|az bd;clear W m v P ge ho;go_wp2_with fail
   rw[im];go_wp2_with fail
   apply(hi W2 ej).mono;rintro dT w2⟨m2,rfl,gf,P⟩;obtain⟨y2,z2,rfl⟩:=aM gf;obtain⟨W3,nO,v,W,m,ho⟩:=CG (i:=5) ec gf P;have g2:=aX v 5;have f2:=cV (i:=5) v;obtain⟨hw,ek,ce,bT,cc⟩:=nZ W (ej.aj m<|λr c=>bj U) ho (m.aZ bL<|λr c q=>gV ((bL.lt r c).1)<|az bd)<|m.aZ cb<|λr c q=>gV ((cb.lt r c).1)<|az ck;clear W m v P gf ho;go_wp2_with fail
   rw[im];go_wp2_with fail
   apply(hj W3 ek).mono;rintro dT w2⟨m3,rfl,gg,P⟩;obtain⟨y3,z3,rfl⟩:=aM gg;obtain⟨W4,nS,v,W,m,ho⟩:=CG (i:=6) hw gg P;have g3:=aX v 6;have f3:=cV (i:=6) v;obtain⟨cl,E,cj,ca,cd,ch⟩:=nT W (ek.aj m<|λr c=>bj U) ho (m.aZ bT<|λr c q=>gV ((bT.lt r c).1)<|az bd) (m.aZ cc<|λr c q=>gV ((cc.lt r c).1)<|az ck)<|m.aZ ce<|λr c q=>gV ((ce.lt r c).1)<|az ec;clear W m v P gg ho;go_wp2_with fail
   rw[im];go_wp2_with fail
   have bh:cU W4 b s r:=(E.A b (az eb) id).trans eb;have lc:∀K:Z,K.heap=W4.heap->(λ(K:Z)=>bA K (X b 2)=M (aJ s.f)/\bA K (X d 0)=M (bw nx)/\bA K (X d 1)=M (bw dz)/\bA K (X d 2)=M (bw bq)/\bA K (X d 3)=M (am y0 (y a') z0)/\bA K (X d 4)=M (am y1 (y b') z1)/\bA K (X d 5)=M (am y2 (y c') z2)/\bA K (X d 6)=M (am y3 (y d') z3)) K:=by
    intro K el;have h1:K.heap[b]?=W4.heap[b]?:=by rw[el]
    have h2:K.heap[d]?=W4.heap[d]?:=by rw[el]
    have ip:cU K b s r:=h1.trans bh;have ll:=h2.trans cl;refine⟨ip.u z,?_,?_,?_,?_,?_,?_,?_⟩<;>(rw[cE ll];rfl)
   have lt:cR bN 203 #[aJ s.f,ef #[bw nx,bw dz,bw bq,am y0 (y a') z0,am y1 (y b') z1,am y2 (y c') z2,am y3 (y d') z3]] W4.drew λdT w'=>wT W4.drew w' s.f KR (vr<|Rb dz bq [a',b',c',d']) dT:=by
    have p:=ag D;have aD:=ag aV;have ip:I aC wr W4.drew:=E.df z;have C:∀bl∈us,bl.A:=λbl hu=>by
     have hx:∀{F:fB},Dl wr s.f F bl->bl.A:=λho=>by
      have h0:=Ny ho.jV.l;have h2:=ho.jV.dL;refine⟨ho.cK,U,?_⟩;have h1:=BU<|λr c=>(ho.jV.l r c).A;unfold iD;rw[ai,dh];omega
     obtain q|⟨_,bs,_,_,q⟩:=p.S bl hu
     .exact hx (p.qN bl q).h
     .exact hx q
    have ll:y a'+y b'+y c'+y d'<=3000000000:=by
     have:=p.dL;rw[aD]at this;grind
    have el:=Yi s.f KR (nx:Y) dz bq y0 y1 y2 y3 z0 z1 z2 z3 a' b' c' d' (λr c=>ip.u (p.o r c) id p.o.lt) (dQ ca) (dQ cd) (dQ ch) (dQ cj) (λr c=>(ca.lt r c).2) (λr c=>(cd.lt r c).2) (λr c=>(ch.lt r c).2) (λr c=>(cj.lt r c).2) (λbr h=>C br (by rw[aD];simp[h])) (λbr h=>C br (by rw[aD];simp[h])) (λbr h=>C br (by rw[aD];simp[h])) (λbr h=>C br (by rw[aD];simp[h])) U U U ll (p.f.aA ip<|λ_ _=>id) (gV p.l aa.l) (p.fx.D aa.d:qp KR.fx);rw[<-ag dc]at el;unfold Rb;rwa[<-ag dc]
   rename_i QQ KK hH;refine cX (λ(K:Z)=>bA K (X b 2)=M (aJ s.f)/\bA K (X d 0)=M (bw nx)/\bA K (X d 1)=M (bw dz)/\bA K (X d 2)=M (bw bq)/\bA K (X d 3)=M (am y0 (y a') z0)/\bA K (X d 4)=M (am y1 (y b') z1)/\bA K (X d 5)=M (am y2 (y c') z2)/\bA K (X d 6)=M (am y3 (y d') z3)) 6 aH ?_;apply dH 0;iterate 5 (refine vf (v:=?_) (lc W4.drew z) z aH wO z ?_ ?_;rotate_left;(focus(rintro K⟨s2,q0,q1,q2,q3,q4,q5,q6⟩;go_simp;try rfl));simp only[ig,eh,jZ])
   apply eS;refine aW 5 ?_;intro K5 hE;go_simp;apply lt.mono;rintro dT w5⟨v5,cm,rfl,gr⟩;have dn:=gr.D;have hV:∀r,KR.j s.f r->r<d:=λr c=>bP<|D.f.lt r c;have gx:¬KR.j s.f b:=λq=>by
    obtain B|B:=D.j b q
    .exact gv B
    .have:=az an;omega
   have fs:cU w5 b s r:=(dn.aA.A b (az bh) gx).trans bh;have A:w5.heap[d]?=_:=(dn.aA.A d (az cl)<|λq=>bP<|hV _ q).trans cl;obtain⟨bt,ed,w,kb,hs⟩:=nZ fs A dn gr.d gx;refine hE _ _ (λ_=>⟨fs.u z,(by rw[cE A];rfl),(by rw[cE A];rfl),(by rw[cE A];rfl),(by rw[cE A];rfl),(by rw[cE A];rfl),(by rw[cE A];rfl),(by rw[cE A];rfl)⟩) ?_;clear hE dn gr fs A hV gx;try simp only[ig,eh]
   refine aW 6 ?_;intro K6 hG;go_simp;refine hG _ _ (λq=>(q z).elim) ?_;refine dG aH ?_ _;show KK _ _;apply hH;clear hH hG;obtain⟨rfl,o5⟩|⟨l5,q5,c5,r1,r2,rfl,r3,r4⟩:=ag kb;rotate_left
   .have ip:=ao.D;have g:I (KR.j s.f) wr w5:=(E.aT (T:=KR.j s.f) cY).aj ((cf (KR.j s.f) W4).aj w.aA<|λ_ q=>J q)<|λ_ q=>J q;have hR:∀ea,KR.j s.f ea->(Wr s.f f ps ea\/ea=b)\/G (H a)<=ea:=λea hx=>by
     obtain B|B:=D.j ea hx
     .exact J<|J<|J B
     grind
    have el:CmE a w5 b s r f cm ps (y<|ba++bb++N++bc) (eW q5):=⟨w.ok,(bf.aT (T:=λr=>Wr s.f f ps r\/r=b)<|λ_ q=>J<|J q).aj g hR,λO av=>by
     obtain B|B:=w.j O av
     .exact(D.j O B).imp id<|λN=>U
     .have:=E.D;have:=bf.D;simp at B;grind,D.fx.aj w.fx,⟨s,bt,z,z⟩,⟨q5,c5,z,r3,D.fx.A aa.L r4⟩,lw nw++l5,nw,Rb dz bq [a',b',c',d'],[],(iu _).2 (r1.trans (qI _ _)),mr.EZ D.lM r2,Lw D.YE D.le aa.f,λbl hu=>(D.L bl hu).2,by rw[TB,<-ag aV,D.dL,<-ag dd];omega,ar,ar⟩
    have HR:=ak<|show CmW a w5 b s r n6 bq f ps (am x0 (y ba) i) (am x1 (y bb) j) (am x2 (y N) k) (am x3 (y bc) l) ba bb N bc (a0++b0++c0++d0) (aN<|eW q5)from bj ⟨_,cm,z,el⟩;clear el g hR r1 r2 r3 r4;go_wp2;go_ret;have hR:=ag HR;simp_all
   have lv:cm.l=[]:=by
    obtain⟨K1,h1,K2,⟨a1,_,a3⟩,b1,_,b3⟩:=nQ (l:=[.cr kE,.ap kE<|Rb dz bq [a',b',c',d'],.sy kE]++[.rn kE fj]) o5;exact b3.trans a3
   have p:=ag D;have it:G (H a)<G (H w1):=az bv;have mp:=p.aA.D;have g:I (KR.j s.f) wr w5:=(E.aT (T:=KR.j s.f) cY).aj ((cf (KR.j s.f) W4).aj w.aA<|λ_ q=>J q)<|λ_ q=>J q;have gj:∀r,r<G (H w1)->¬f.j s.f r->¬KR.j s.f r:=λr h1 h2 q=>(p.j r q).elim h2<|λB=>U;have dr:∀r,r<G (H w1)->¬f.j s.f r->w5.heap[r]?=wr.heap[r]?:=λr h1 h2=>g.A r U<|gj r h1 h2;have le:=e.le;have lp:∀bs∈ps,∀r,bs.D r->r<G (H w1)/\¬f.j s.f r:=λbs hp r c=>by
    have h1:=(e.S bs hp).1.lt r c;exact⟨U,λq=>bP<|e.j r q⟩
   have lo:∀r,MU s.f b n6 f r->r<G (H w1)/\¬f.j s.f r:=λr c=>⟨bP c.1,c.2.1⟩;have hM:∀{F:fB}{bl:cH},Dl wr s.f F bl->(∀r,F r->r<G (H w1)/\¬f.j s.f r)->MZ w5 bl:=λho el=>by
    obtain⟨hd,ab,n,hm,ip⟩:=(ho.A<|λr c=>dr r (el r c).1 (el r c).2).D;exact⟨ho.cK,_,_,_,_,hd,ab,n,_,hm⟩
   have hK:∀br∈a0++b0++c0++d0,MZ w5 br:=λbr h0=>hM (p.qN br h0).h lo;have lb:∀bl∈a'++b'++c'++d',MZ w5 bl:=λbl hu=>by
    rw[<-ag aV]at hu;obtain q|⟨_,bs,hp,_,q⟩:=p.S bl hu
    .exact hK bl q
    .exact hM q<|lp bs hp
   have hJ:Fw w5 b 10 [(s.l0,a0),(s.l1,b0),(s.l2,c0),(s.l3,d0)]:=by
    refine bx.aA (S:=λr=>Wr s.f f ps r\/KR.j s.f r) ((bf.aT (T:=λr=>Wr s.f f ps r\/KR.j s.f r)<|λ_ q=>J<|J q).aj g<|λ_ q=>J<|bj q) ?_ ?_
    .rintro(q|q)
     .obtain B|⟨bs,hp,B|B⟩:=q
      .exact gv B
      .have:=((e.S bs hp).1.lt b<|J B).1;omega
      .have:=((e.S bs hp).1.lt b<|bj<|bj B).1;omega
     .exact hs q
    .intro dx ip O av q;have el:MU s.f b n6 f O:=by
      have:dx=0\/dx=1\/dx=2\/dx=3:=aI;obtain rfl|rfl|rfl|rfl:=this
      .exact db _ (J z) O av
      .exact db _ (bj<|J z) O av
      .exact db _ (bj<|bj<|J z) O av
      .exact db _ (bj<|bj<|bj z) O av
     obtain B|B:=q
     .obtain B|⟨bs,hp,B|B⟩:=B
      .simp_all
      .have:=((e.S bs hp).1.lt O<|J B).1;have:=el.1;omega
      .have:=((e.S bs hp).1.lt O<|bj<|bj B).1;have:=el.1;omega
     simp_all
   have ad:∀bm(ts:dI),sO a s.f b n6 f bm->Row wr 1 bm (y ts) (ts.map cH.D)->Row w5 1 bm (y ts) (ts.map cH.D)/\∀r,cN bm=M r->r<G (H w5):=λbm ts hv hZ=>
    ⟨g.bV hZ<|λr c=>⟨gj r (bP<|(hv r c).1) (hv r c).2.1,bP<|(hv r c).1⟩,λr c=>gV ((hv r c).1) g.D⟩
   have q0:=ad _ a' e.b0 hl;have q1:=ad _ b' e.b1 hn;have q2:=ad _ c' e.b2 hq;have q3:=ad _ d' e.b3 hr;have:y (a'++b'++c'++d')<=3000000000:=ag aV▸p.dL▸hT;have gn:Pow w5:=p.x.dU<|dr _ (bP e.n.1) e.n.2.1;have es:=Lt a0 b0 c0 d0 a' b' c' d' bt hJ q0.1 q1.1 q2.1 q3.1 q0.2 q1.2 q2.2 q3.2 hK lb gn hW U U;have ac:=(dr (G<|H a) it<|λq=>bP<|e.j _ q).trans hf;have cn:=aX ac 0;have co:=aX ac 1;have cp:=aX ac 2;have cr:=aX ac 3;rw[<-ag aV]at es;go_wp2_with fail
   apply es.mono;rintro dT w6⟨v6,rfl,bp,ds⟩;obtain⟨ns,cx⟩:=og<|oa s (a0++b0++c0++d0) us;rw[cx]at bp;obtain⟨x6,c6,lx⟩:=aM bp;subst lx;have u:cU w6 b s r:=(ds.A b (az bt) id).trans bt;have ev:w6.heap[d]?=_:=(ds.A d (az ed) id).trans ed;have bg:w6.heap[G<|H a]?=_:=(ds.A (G<|H a) (az ac) id).trans ac;let⟨jk,iv,fx⟩:=cG<|bx.bV 0 ar;let⟨jB,jA,fL⟩:=cG<|bx.bV 1 ar;let⟨jD,jC,ga⟩:=cG<|bx.bV 2 ar;let⟨jG,jE,gb⟩:=cG<|bx.bV 3 ar;simp only[cO,cF]at fx fL ga gb;have:bA w6 (X b 7)=M (am oS oL oB):=by rw[<-ag jK];exact u.u z
   have:=cU.bW u 8 z;have:=cU.bW u 9 z;have oi:bA w6 (X b 10)=M (am jk (y a0) iv):=fx▸u.u z;have oj:bA w6 (X b 11)=M (am jB (y b0) jA):=fL▸u.u z;have om:bA w6 (X b 12)=M (am jD (y c0) jC):=ga▸u.u z;have on:bA w6 (X b 13)=M (am jG (y d0) jE):=gb▸u.u z;have op:=cU.bW u 14 z;have os:=cU.bW u 17 z;have ov:=cU.bW u 18 z;have ox:=cU.bW u 19 z;have oy:=cU.bW u 20 z;have oA:=cU.bW u 21 z;have fz:∀dx,iH w6 (X b dx)=bD:=λdx=>u.bS;have:=fz 7;have:=fz 8;have:=fz 9;have nb:=fz 10;have nc:=fz 11;have nd:=fz 12;have ne:=fz 13;have nf:=fz 14;have nl:=fz 15;have nm:=fz 16;have nn:=fz 17;have no:=fz 18;have nq:=fz 19;have cn:=aX bg 0;have co:=aX bg 1;have cp:=aX bg 2;have cr:=aX bg 3;have t0:=aX ev 0;have t1:=aX ev 1;have n1:G (H a)≠b:=U;have n2:d≠b:=U;have:b≠G (H a):=U;have:b≠d:=U;go_wp21;rename_i mN kf hI;let⟨W7,fk⟩:∃W7,cP (cP (cP w6 (X b 7) aF) (X b 8)<|ay 0) (X b 9) (bw bq)=W7:=⟨_,rfl⟩;have Q:cU W7 b {s with L:=aF,o:=0,S:=bq} r:=fk▸(aY<|aY<|aY u).trans rfl;have al:I (λr=>r=b) w6 W7:=fk▸((iP b w6).aL _ _ _<|J z).aL _ _ _ (J z);have cn:bA W7 (X (G<|H a) 0)=M (am x0 (y ba) i):=al.u cn n1<|sj cn;have co:bA W7 (X (G<|H a) 1)=M (am x1 (y bb) j):=al.u co n1<|sj co;have cp:bA W7 (X (G<|H a) 2)=M (am x2 (y N) k):=al.u cp n1<|sj cp;have cr:bA W7 (X (G<|H a) 3)=M (am x3 (y bc) l):=al.u cr n1<|sj cr;have t0:bA W7 (X d 0)=M (bw nx):=al.u t0 n2<|sj t0;have t1:bA W7 (X d 1)=M (bw dz):=al.u t1 n2<|sj t1;have:bA W7 (X b 10)=M (am jk (y a0) iv):=by rw[<-fx];exact Q.u z
   have:bA W7 (X b 11)=M (am jB (y b0) jA):=by rw[<-fL];exact Q.u z
   have:bA W7 (X b 12)=M (am jD (y c0) jC):=by rw[<-ga];exact Q.u z
   have:bA W7 (X b 13)=M (am jG (y d0) jE):=by rw[<-gb];exact Q.u z
   have:=cU.bW Q 14 z;have:iH W7 (X b 10)=bD:=Q.bS;have:iH W7 (X b 11)=bD:=Q.bS;have:iH W7 (X b 12)=bD:=Q.bS;have:iH W7 (X b 13)=bD:=Q.bS;have:iH W7 (X b 14)=bD:=Q.bS;rw[fk];apply PU kf
   .intro el;go_region
    all_goals exact el
   refine hI _ _ ?_;let⟨W8,fl⟩:∃W8,(cP (cP (cP (cP (cP W7 (X b 10)<|am x0 (y ba) i) (X b 11)<|am x1 (y bb) j) (X b 12)<|am x2 (y N) k) (X b 13)<|am x3 (y bc) l) (X b 14)<|bw nx).drew=W8:=⟨_,rfl⟩;have T:cU W8 b {s with L:=aF,o:=0,S:=bq,l0:=am x0 (y ba) i,l1:=am x1 (y bb) j,l2:=am x2 (y N) k,l3:=am x3 (y bc) l,t:=nx} r:=by
    rw[<-fl];exact(aY<|aY<|aY<|aY<|aY Q).trans z
   have dv:I (λr=>r=b) W7 W8:=by
    rw[<-fl];exact(((((iP b W7).aL _ _ _<|J z).aL _ _ _<|J z).aL _ _ _<|J z).aL _ _ _<|J z).t<|cf aC _
   have t1:bA W8 (X d 1)=M (bw dz):=dv.u t1 n2<|sj t1;have:=cU.bW T 17 z;have:=cU.bW T 18 z;have:=cU.bW T 19 z;have:=cU.bW T 20 z;have:=cU.bW T 21 z;have:iH W8 (X b 17)=bD:=T.bS;have:iH W8 (X b 18)=bD:=T.bS;have:iH W8 (X b 19)=bD:=T.bS;have:iH W8 (X b 20)=bD:=T.bS;have:iH W8 (X b 21)=bD:=T.bS;rw[fl];go_wp21;let⟨W9,fn⟩:∃W9,cP (cP (cP (cP (cP W8 (X b 17)<|bw dz) (X b 18)<|aO bD) (X b 19)<|aO bD) (X b 20)<|aO bD) (X b 21) (aO bD)=W9:=⟨_,rfl⟩;have fu:cU W9 b (s.pV (am x0 (y ba) i) (am x1 (y bb) j) (am x2 (y N) k) (am x3 (y bc) l) bq dz) r:=by
    rw[<-fn];unfold SR.pV;rw[ag dc];exact(aY<|aY<|aY<|aY<|aY T).trans z
   have ha:I (λr=>r=b) W8 W9:=by
    rw[<-fn];exact((((iP b W8).aL _ _ _<|J z).aL _ _ _<|J z).aL _ _ _<|J z).aL _ _ _<|J z
   have ax:I (λr=>r=b) w5 W9:=((ds.aT (T:=λr=>r=b) cY).aj (al.aj (dv.aj ha<|λ_ q=>J q)<|λ_ q=>J q)<|λ_ q=>J q);rw[fn];have lm:=cx;have fv:=ka us;have hU:=Ps s (a0++b0++c0++d0) us ls;rw[lm]at fv hU;have cB:¬cm.j s.f b:=λq=>by
    obtain B|B:=w.j b q
    .exact hs B
    .have:=az bh;simp at B;omega
   have ky:cJ W9 s.f cm:=w.ok.aA ax (λr c q=>by rw[q]at c;exact cB c);have lr:=Gy (am x6 (y ns) c6) ns fu ky cB (dQ<|((al.aj (dv.aj ha<|λ_ q=>J q)<|λ_ q=>J q)).aZ bp<|λr c q=>gV ((bp.lt r c).1)<|az bt) (λcM a=>⟨au (bp.lt cM a).2<|((al.aj (dv.aj ha<|λ_ q=>J q)<|λ_ q=>J q)).D,λq=>by have h1:=(bp.lt cM a).1;have h2:=w.ok.lt cM q;omega⟩) (λ_=>(D.fx.aj w.fx).D aa.d) (by rw[lv];simp;omega) fv;go_call lr as dT w'⟨v8,K8,rfl,ih⟩;have aU:=ak ih.D;have gs:=ih.d;have kz:∀r,r<G (H a)->¬f.j s.f r->r≠b->w'.heap[r]?=wr.heap[r]?:=by
    intro O h1 h2 h3;have g1:w5.heap[O]?=wr.heap[O]?:=dr O U h2;have g2:W9.heap[O]?=w5.heap[O]?:=ax.A O (bP g.D) h3;refine(aU.aA.A O (gV g.D ax.D)<|λq=>?_).trans<|g2.trans g1;obtain B|B:=w.j O q
    .exact gj O U h2 B
    .have:=E.D;simp at B;omega
   have hP:I (λr=>Wr s.f f ps r\/r=b) a w':=by
    have ip:=g.D;have el:=E.D;have hR:∀ea,KR.j s.f ea->(Wr s.f f ps ea\/ea=b)\/G (H a)<=ea:=λea hx=>by
     obtain B|B:=D.j ea hx
     .exact J<|J<|J B
     grind
    refine(((bf.aT (T:=λr=>Wr s.f f ps r\/r=b)<|λ_ q=>J<|J q).aj g hR).aj ax ar).aj aU.aA<|λea hx=>?_;obtain B|B:=w.j ea hx
    .exact hR ea B
    .simp at B;grind
   have hC:∀r,K8.j s.f r->f.j s.f r\/G (H a)<=r:=by
    intro O av;have:=g.D;have:=E.D;have:=ax.D;obtain B|B:=aU.j O av
    .obtain B|B:=w.j O B
     .obtain B|B:=D.j O B
      .exact J B
      grind
     .simp at B;grind
    grind
   have hz:cU w' b (s.pV (am x0 (y ba) i) (am x1 (y bb) j) (am x2 (y N) k) (am x3 (y bc) l) bq dz) r:=(aU.aA.A b (az fu) cB).trans fu;have hD:Fx f.fx K8.fx:=(D.fx.aj w.fx).aj aU.fx;obtain⟨rfl,o8⟩|⟨l8,q8,c8,r1,r2,rfl,r3,r4⟩:=gs
   .have el:=ak<|show Us a w' b s r n6 bq f ps (am x0 (y ba) i) (am x1 (y bb) j) (am x2 (y N) k) (am x3 (y bc) l) ba bb N bc (a0++b0++c0++d0)from⟨w1,wr,KR,K8,us,nw,a',b',c',d',dz,ao,ag dd▸D,aV,HEq.1,HEq.2.1,HEq.2.2.1,HEq.2.2.2,hz,aU.ok,kz,hP,hC,hD,by rw[cx];exact mr.EZ o5 o8⟩;go_wp2;go_ret;exact J ⟨z,el⟩
   .have HR:=ak<|show CmW a w' b s r n6 bq f ps (am x0 (y ba) i) (am x1 (y bb) j) (am x2 (y N) k) (am x3 (y bc) l) ba bb N bc (a0++b0++c0++d0) (aN<|eW q8)from bj ⟨_,K8,z,aU.ok,hP,hC,hD,⟨_,hz,z,z⟩,⟨q8,c8,z,r3,(D.fx.aj w.fx).A aa.L r4⟩,lw nw++(vr (Rb dz bq [a',b',c',d'])++l8),nw,Rb dz bq [a',b',c',d'],ns,(iu _).2<|(iu _).2 r1,mr.EZ D.lM<|mr.EZ o5 r2,Lw D.YE D.le aa.f,λbl hu=>(D.L bl hu).2,by rw[TB,<-ag aV,D.dL,<-ag dd];omega,hU,fv⟩;go_wp2;go_ret;exact HR
def oI(n:Y)(l:dB):eD:=le 8 n++((y l:Y)::l.flatMap oz)
def zi(n:Y)(l:dB):eD:=ij (le 4 (y<|oI n l)++le 4 (pt<|oI n l))++oI n l
def Om(h:S.Good):y (oz S)<=35:=by
 have:=Ac h;unfold yI at this;rw[ai]at this;omega
def wC{l:dB}(h:∀x∈l,x.Good):y (l.flatMap oz)<=35*y l:=by
 induction l with
 |nil=>simp
 |cons x r c=>
  have:=Om<|h x ar;have:=c (λa b=>h a<|by simp[b]);rw[dR,ai,bK];omega
structure O9(w0 w:Z)(hv bv:ae)(hs bs:eD):Prop where
 qo:fy w (G<|H w0) hv hs
 f:fy w (G<|H w0) bv bs
 ne:∀k,cN hv=M k->cN bv≠M k
 aA:I aC w0 w
def O9.lA{c:ae}{g f:eD}(h:O9 a e d w m g)(k:fm e P d c)(o:fy P (G<|H a) c f):O9 a P c w f g:=by
 have j:=I.fU k;refine⟨o,j.aZ h.f<|λl b p=>h.ne l p b,λl b i=>?_,h.aA.aj j<|λl b=>bj (h.qo.lt l b).1⟩;obtain n|⟨q,n,r⟩:=k.f;exact h.ne l (n.symm.trans b) i;rw[n]at b;cases b;have:=(h.f.lt _ i).2;omega
def RM(l:dB)(ac a ax:R)(w:Z)(hT:Steps w)(V:ac<G (H w))(hc:∀ch ce,(bu l)[ch]?=M ce->bA w (X ac<|a+ch)=M ce)(i:0<y l)(d:∀O∈l,O.Good)(hl:y l<=8):cR bN 159 #[bX ac a (y l) ax] w λab w'=>∃v',ab=aN v'/\fy w' (G<|H w) v' (zi (l[0]'i).f l)/\I aC w w':=by
 let⟨i0,bc,bx,bE,bL⟩:=cZ pL;have s:=d _<|aB i;have cd:=wC d;have aD:bA w (X ac<|a+3)=M (bw (l[0]'i).f):=zY<|hc _ _ (fH l 0 i).2.2.2;let⟨o,hn⟩:∃o,(l[0]'i).f=o:=⟨_,rfl⟩;have u:=s.b0;have x:=s.b1;rw[hn]at u x aD|-;have bl:=rh (n6:=G<|H w) (v:=aF) (bs:=[]) o (w:=w) (fy.kj _ _) (aq _) ar u x;have e1:IntKind.u8.wrap (y l:Y)=y l:=by rw[IntKind.wrap_u8];omega
 let⟨P,HG,HT⟩:=eU hc d hT;go_in
 go_wp21;go_call bl as ab w1⟨v1,rfl,A,br⟩;have F:I aC w w1:=(I.fU br).aT (λca g=>by simp[cN]at g);have bk:=wu (G<|H w) v1 ([]++le 8 o) (y l:Y) w1 A F.D (by simp[dh]);have ad:=ak A;have ao:=ak F;go_wp21;go_call bk as ab w2⟨v2,rfl,bf,bs⟩;have ap:=ak<|ao.aj (I.fU bs)<|λca g=>bj (ad.lt ca g).1;have al:=ak bf;go_wp2;go_loopw [3,19] (λa i wr=>∃m:R,m<=y l/\i=ay m/\fy wr (G<|H w) a (le 8 o++((y l:Y)::(l.take m).flatMap oz))/\I aC w wr) (λ_ i _=>y l-(intOf i).toNat)
 exact⟨0,bQ _,z,dV<|ag al,ap⟩
 .obtain⟨m,hm,rfl,f,e⟩:=hrel;have bp:=e.D;by_cases k:m<y l
  .have j:=HG l[m]<|aB k;have b:=fH l m k;have B:bA wr (X ac<|a+m*4)=M (aw l[m].D):=e.u (P _ _ b.1) id V;have C:bA wr (X ac<|a+m*4+1)=M (aw l[m].l):=e.u (by rw[bJ];exact P _ _ b.2.1) id V;have D:bA wr (X ac<|a+m*4+2)=M (aO l[m].dP):=e.u (by rw[bJ];exact P _ _ b.2.2.1) id V;have K:bA wr (X ac<|a+m*4+3)=M (bw l[m].f):=e.u (by rw[bJ];exact P _ _ b.2.2.2) id V;have p:y (le 8 o++((y l:Y)::(l.take m).flatMap oz))<=1000:=by
    have L:=wC (l:=l.take m)<|λO hx=>HG O<|ix hx;grind[length_append,length_cons,dh]
   have r:=ak (show(le 8 o++((y l:Y)::(l.take m).flatMap oz))++oz l[m]=le 8 o++((y l:Y)::(l.take<|m+1).flatMap oz)from by
    rw[aG k,gR];simp)
   generalize l[m]=O at*;have c:=TQ (G<|H w) u3 (le 8 o++((y l:Y)::(l.take m).flatMap oz)) O (dw wr<|aK #[aw O.D,aw O.l,aO O.dP,bw O.f] 223) (f.aE _) dW U (bP j.f)<|bP j.l;generalize(le 8 o++((y l:Y)::(l.take m).flatMap oz))=cb at*;have t:=f.lt;let⟨Q,S,xd,N⟩:=O;simp only at B C D K c;unfold E.t at c;simp only at c;go_wp21;go_call c as ab W⟨v3,rfl,q,n⟩;go_wp2;go_roundw
   .refine⟨m+1,k,dM,ag r▸q,?_⟩;exact(e.aE _).aj (I.fU n) aI
   .simp[intOf];omega
  .have bd:m=y l:=U;subst bd;rw[cQ]at f;have aU:y (oI o l)<=1000:=by unfold oI;rw[ai,bK,dh];omega
   have p:0<y (oI o l):=by unfold oI;rw[ai,dh];omega
   have j:fy wr (G<|H w) u3 (oI o l):=f;let⟨S,Q,bq,_,_,_⟩:=vu j p;subst bq;let⟨b,c⟩:∃b,y (oI o l)=b:=⟨_,rfl⟩;have r:=ak (show zi o l=ij (le 4 (b:R)++le 4 (pt<|oI o l))++oI o l by rw[<-c];rfl);rw[c]at aU p;have bm:=kT (n6:=G<|H w) (v:=aF) (bs:=[]) (b:R) (w:=wr) (fy.kj _ _) bp ar U U;have e2:IntKind.u32.wrap (b:Y)=b:=vq U U;rw[c];generalize oI o l=aa at*;go_wp21;go_call bm as ab W⟨v3,rfl,q,n⟩;have hA3:O9 w W v3 (bX S 0 b Q) ([]++le 4 (b:R)) aa:=by
    have K:I aC wr W:=(I.fU n).aT (λca g=>by simp[cN]at g);have B:fy wr (G<|H w) (bX S 0 b Q) aa:=by have:=j;rwa[c]at this
    refine⟨q,K.aZ B<|λ_ _ cj=>cj,λca g hb=>?_,e.t K⟩;obtain cc|⟨g9,cc,hy⟩:=n.f
    .rw[cc]at g;cases g
    .rw[cc]at g;cases g;have:=(B.lt _ hb).2;omega
   have D:∀W,I aC w W->Steps W:=λW a=>HT.dD (a.dD (aq _) cY) HT.lt;have bo:=sV (bX S 0 b Q) aa W (D _ hA3.aA) (fy.bB hA3.f) (by rw[c];omega);go_wp21;go_call bo as ab w4⟨rfl,N⟩;subst w4;have ba:=Ii aa;have aV:=Mq aa;have C:=kT (pt aa) hA3.qo hA3.aA.D (by simp[dh]) ba aV;generalize pt aa=T at*;go_wp21;go_call C as ab w4⟨v4,rfl,bg,N⟩;have hA4:=hA3.lA N bg;have bn:=Gr (D _ hA4.aA) hA4.qo hA4.aA.D (by simp[dh]);go_wp21;go_call bn as ab w5⟨v5,rfl,bh,bt⟩;have hA5:=hA4.lA bt bh;have t:y ((([]++le 4 (b:R))++le 4 T)++le 4 (pt<|([]++le 4 (b:R))++le 4 T))=12:=by simp[dh]
   let⟨hx,bb,L⟩:=aM hA5.qo;rw[t]at L;subst L;have bT:=hA5.aA.D;go_wp2_with(first
    |(at_builtin;go_loud(refine cq _ z (.tmp 36) (.tmp 37) 31 z (G (H w)) 5 i0 (.int .u8 0) 1 1 underlying31 bc bx bE bL z cg (.slice hx 12 bb) 12 (((([]++le 4 (b:R))++le 4 T)++le 4 (pt (([]++le 4 (b:R))++le 4 T))).map (Value.int .u8)) z (by have h0:=hA5.qo;unfold fy at h0;rwa[t]at h0) (X S 0) b Q (aa.map (Value.int .u8)) z (by rw[cS,c,tF]) (vO (fy.bB hA5.f)) (by intro ce hu;simp only[cC]at hu;obtain⟨g9,_,rfl⟩:=hu;rfl) U U bT ?_;intro v6 w6 bi bv;have an:=ak bi;have av:=ak bv)))
   go_ret;refine⟨_,z,?_,hA5.aA.aj (I.fU av)<|λca g=>bj (hA5.qo.lt ca g).1⟩;rw[ag r];refine fy.of an ?_ ?_
   .rw[ai,iA,c,ai,dh,dh]
   .unfold ij;simp

def Zs(h:∀x∈i,x.Good):ki (i.flatMap oz):=by
 intro x a;let⟨e,b,a⟩:=pU.1 a;exact Po (h e b) x a
def zbv:Y->iF->eD
 |_,[]=>[]
 |f,l::r=>zi f l++zbv (f+1) r
def rsj(f:Y)(a:iF)(b:eD):eD:=zbv f a++b
def Jnk(q:Y)(a:eD):Prop:=a=[]\/∃l:dB,(∀x∈l,x.Good)/\y l<=8/\y a<y (zi q l)/\a<+:zi q l
theorem zJ(h:∀x∈i,x.Good)(a:y i<=8):y (zi r i)<=400:=by
 have:=wC h;unfold zi oI;grind[length_append,iA,dh,length_cons]
def Jnk.dL{q:Y}(h:Jnk q m):y m<=400:=by
 obtain rfl|⟨l,a,c,d,_⟩:=h;simp;grind[zJ]
def QX(h:∀l∈O,1<=y l):y O<=(O.map y).sum:=by
 induction O with
 |nil=>simp
 |cons l r b=>
  have:=h l ar;have:=b (λx a=>h x<|by simp[a]);grind
def Iv(w:Z)(c:R)(b:iE)(a:iF):Prop:=y b=y a/\∀i(d:i<y b)(e:i<y a),fD w c 223 4 b[i] (y a[i])<|bu a[i]
def VZ:(prog.info? 102).map (λi=>(i.zero,i.size,i.bytes))=M (M aF,1,24):=aH
structure B7(w0 w:Z)(f:Y)(ls:iF)(jk:eD)(b m9 c m:R)(o:ae)(vs:iE):Prop where
 g:w.heap[G (H w0)+1]?=M (aK #[o,aO bD] 172 (0,0))
 d:w.heap[G<|H w0]?=M (aK #[aF,aO bD] 172 (0,0))
 aZ:fD w (G (H w0)+2) 102 1 o m vs
 l:Iv w (G (H w0)+2) vs (ls.take m)
 bB:Bytes w0 (bX b m9 (y<|rsj (f+m) (ls.drop m) jk) c) (rsj (f+m) (ls.drop m) jk)
 i:y (rsj (f+m) (ls.drop m) jk)<=c/\c<=9223372036854775807
 aA:I aC w0 w
def B7.DB{a F w1 w2:Z}{b m9 K z' c' f:R}{p o2 bv:ae}{E:Obj}(h:B7 a F r O m b m9 K f p Q)(hm:f<y O)(j:I aC F w1)(L:fD w1 (G<|H F) 223 4 bv (y O[f]) (bu O[f]))(D:fD w2 (G (H a)+2) 102 1 o2 (f+1) (Q++[bv]))(hw:fm (dw w1 E) w2 p o2)(s:Bytes a (bX b z' (y<|rsj (r+(f+1:R)) (O.drop<|f+1) m) c') (rsj (r+(f+1:R)) (O.drop<|f+1) m))(t:y (rsj (r+(f+1:R)) (O.drop<|f+1) m)<=c'/\c'<=9223372036854775807):B7 a (cP w2 (X (G (H a)+1) 0) o2) r O m b z' c' (f+1) o2 (Q++[bv])/\bA w2 (X (G (H a)+1) 0)=M p/\iH w2 (X (G (H a)+1) 0)=bD:=by
 have hz:=az h.g;have aa:=h.aA.D;have P:=aS h.aZ;have n:I (λk=>cN p=M k) w1 w2:=((I.bI (λk=>cN p=M k) w1).aE E).aj (I.fU hw)<|λ_ c=>J c;have w:I (λk=>cN p=M k) F w2:=(j.aT (T:=λk=>cN p=M k) cY).aj n<|λ_ c=>J c;have o:∀k,cN p=M k->∃g,F.heap[k]?=M (aK g 102 (0,0)):=λk c=>fZ h.aZ c;have e:w2.heap[G (H a)+1]?=M (aK #[p,aO bD] 172 (0,0)):=(w.A _ hz aI).trans h.g;have d:I (λk=>k=G (H a)+1) w2 (cP w2 (X (G (H a)+1) 0) o2):=(I.bI _ w2).aL _ 0 _<|J z;refine⟨⟨?_,?_,?_,?_,s,t,?_⟩,by rw[cE e];rfl,cV e⟩;have:=aY (i:=0) (u:=o2) e;grind
 exact(kU _ U).trans<|(w.A _ (az h.d) aI).trans h.d;exact d.aZ D<|λk c K=>bP<|(aS D k c).1;let⟨v1,v2⟩:=h.l;(have x:y Q=f:=by rw[v1];simp;omega);refine⟨aI,λq h1 h2=>?_⟩;(have A:∀(V:Z)(ac:ae)(ab:R)(B:iE),V.ownsRow (G (H a)+2) 223 4 ac ab B->I (λk=>cN p=M k) V w2->(∀k,cN p=M k->∃g,V.heap[k]?=M (aK g 102 (0,0)))->fD (cP w2 (X (G (H a)+1) 0) o2) (G (H a)+2) 223 4 ac ab B:=by intro V ac ab B W v S;have i:=v.aZ W (λk c K=>by grind[fZ,lj]);exact d.aZ i<|λk c K=>bP<|(aS i k c).1);obtain N|N:=iT q f;(have C:(Q++[bv])[q]=Q[q]'U:=aI;grind);have v:q=f:=aI;subst v;(have C:(Q++[bv])[q]=bv:=by rw[mM U];simp[x]);have B:(O.take<|q+1)[q]=O[q]:=oX;rw[C,B];refine A w1 _ _ _ (fh L U) n<|λk c=>?_;let⟨g,i⟩:=o k c;exact⟨g,(j.A k (az i) id).trans i⟩;exact(h.aA.aj w aI).aj d ar

def pH{b:Func}{p u:Tmp}(h:b.results=#[.cell p 172,.tmp u])(a:Array ae)(w:Z)(g:R)(x:Option Addr)(n k:R)(d:eN)(t:TypeId)(c:R×R)(f:a.getD p jm=aJ g)(e:w.heap[g]?=M (aK #[am x n k,aO d] t c)):(results b a).run bN w=.ok (de #[ef #[am x n k,aO d],a.getD u jm]) w:=by
 simp[results,h,(dV f:a[p]?.getD jm=aJ g),asAddr,(kP (P:=bN) w g t 172 #[am x n k,aO d] c _ e underlying172 rfl aH),Result.andThen]
def Bytes.zag{c m9 n j:R}(h:Bytes e (bX c m9 n j) m)(i:I aC a e)(f:c<G (H a)):Bytes a (bX c m9 n j) m:=by
 obtain⟨d,_⟩|⟨k,z',c',d,b,g⟩:=h;cases d;cases d;exact bj ⟨_,_,_,z,b,λk d=>(dZ (w:=a)<|i.A _ f id).symm.trans<|g k d⟩
def Yb:ae->R
 | .slice _ n _=>n
 |_=>0
def UW(x:Option Addr)(n c:R):Yb (am x n c)=n:=rfl
def JF:∀{l m:cy af},l.Nodup->(∀x∈l,x∈m)->y l<=y m
 |[],_,_,_=>bQ _
 |x::l,m,a,c=>by
  rw[kQ]at a;obtain⟨m1,m2,rfl⟩:=uZ<|c x ar;have b:∀a∈l,a∈m1++m2:=aI;have:=JF a.2 b;grind
def ru(h:B∈N.map (·.1)):∃b,fo N B=M b:=by
 induction N with
 |nil=>simp at h
 |cons f r a=>
  unfold fo;by_cases e:f.1=B
  .simp_all
  grind
def OL(h:fo N B=M m):B∈N.map (·.1):=cC.2 ⟨_,Ab h,rfl⟩
theorem Md(h:B∉N.map (·.1)):fo N B=dE:=by
 cases c:fo N B with
 |none=>rfl
 |some b=>exact absurd (OL c) h
def SN(a:(N.map (·.1)).Nodup){f:af×eD}(h:f∈N):fo N f.1=M f.2:=by
 induction N with
 |nil=>cases h
 |cons g r b=>
  rw[bO,kQ]at a;unfold fo;grind
def Ia(a:Fs)(n:af):((si a n).map (·.1)).Sublist (a.map (·.1)):=by
 induction a with
 |nil=>exact kJ _
 |cons f r b=>
  unfold si;grind
theorem Wq(a:(N.map (·.1)).Nodup)(n:af):fo (si N n) n=dE:=by
 induction N with
 |nil=>rfl
 |cons f r b=>
  rw[bO,kQ]at a;unfold si;by_cases e:f.1=n
  .rw[fV e];grind[Md]
  .rw[fM e];unfold fo;rw[fM e];exact b a.2
def SO(c:(N.map (·.1)).Nodup){a:cy af}(h:B∈a):fo (JX N a) B=dE:=by
 induction a generalizing N with
 |nil=>cases h
 |cons m r d=>
  have b:((si N m).map (·.1)).Nodup:=c.sublist<|Ia N m;show fo (JX (si N m) r) B=dE;by_cases e:B∈r
  .exact d b e
  grind[vI,Wq]
def BX(b:(N.map (·.1)).Nodup){a:cy af}(h:fo (JX N a) B=M m):B∉a/\fo N B=M m:=by
 by_cases c:B∈a;rw[SO b c]at h;cases h;grind[vI]
def cJ.kg(h:cJ a b f):((vw f.ah).map (·.1)).Nodup:=by
 let⟨e,c,_,j,k⟩:=h.l;have g:e.toList.map (·.key)=(f.ah.map dj.nm).map (λp=>aw p.1):=by have:=cD (List.map Prod.fst) j;grind[map_map,Function.comp_def]
 have d:=k.2.2;rw[g]at d;have i:(vw f.ah).map (·.1)=(f.ah.map dj.nm).map (·.1):=by simp[vw,dj.nm,iV,kK]
 rw[i];rw[iV]at d|-;grind
def BD(h:l.map (λt=>(t.tb,t.ks))=v.map (λt=>(t.tb,t.ks)))(e:wV v):wV l:=by
 have:=(qz h).2.1;have a:∀i(b:i<y l)(c:i<y v),l[i].ks=v[i].ks:=λi b c=>by have f:=cD (λl=>l[i]?) h;simp only[fO,bF b,bF c,Option.map_some,vZ,js]at f;exact f.2
 intro i d;rw[a i U U,a (i+1) d U];exact e i U
structure P7(w w':Z)(sb:R)(s:SR)(k:Y)(n C:R)(K:DK)(T0:dI)(v0 v1 v2 v3:ae)(K':DK)(dz:R)(a' b' c' d':dI):Prop where
 g:cU w' sb (s.pV v0 v1 v2 v3 n dz) k
 st:ST w' sb (s.pV v0 v1 v2 v3 n dz) K' [] a' b' c' d' C
 fx:Fx K.fx K'.fx
 i:((a'++b'++c'++d').map cH.tb).Nodup
 nl:dz<18446744073709551616
 j:∀k,K'.j s.f k->K.j s.f k\/G (H w)<=k
 lM:∃(KR:DK)(nw:dI),mr (lw nw) K KR/\mr (vr (Rb dz n [a',b',c',d'])++(oa s T0<|a'++b'++c'++d').map .rm) KR K'/\y nw<=3000000000/\(∀u∈nw,NwT u)/\(∀t∈a'++b'++c'++d',(∃u∈T0,u.cK=t.cK/\u.ks=t.ks)\/∃u∈nw,u.cK=t.cK/\u.ks=t.ks)/\∀u∈nw,∃t∈a'++b'++c'++d',u.cK=t.cK
 qN:y T0<=3000000000
def CmF(w c:Z)(b:R)(s:SR)(k:Y)(p C:R)(K:DK)(d:cy NT)(j l m n:ae)(e:dI)(N:R)(o:Ending):Prop:=(o=aN ib/\∃a dz f g h i,P7 w c b s k p C K e j l m n a dz f g h i/\I (λk=>Wr s.f K d k\/k=b) w c)\/∃v a,o=aN v/\CmE w c b s k K a d N v
def E6(a:Fs)(dz n:R)(c d e f:dI):Rb dz n [c.map<|ja a,d.map<|ja a,e.map<|ja a,f.map<|ja a]=Rb dz n [c,d,e,f]:=by
 have h:∀b:dI,uC (b.map<|ja a)=uC b:=λb=>by unfold uC;rw[cS,xu];rfl
 simp[Rb,mi,h]
def Zy(c:Fs)(s:SR)(a b:dI):oa s a (b.map<|ja c)=oa s a b:=by
 have:rq a (b.map<|ja c)=rq a b:=by unfold rq;congr 1;funext t;rw[List.any_map];rfl
 unfold oa;rw[this]
def Th{s:SR}(n6 ca bt:R)(ps:cy NT)(v0 v1 v2 v3:ae)(ba bb aV bc a0 b0 c0 d0:dI)(h:cU a b s r)(c:LS a s.f b n6 x (a0++b0++c0++d0) ps ca v0 v1 v2 v3 ba bb aV bc)(bl:Fw a b 10 [(s.l0,a0),(s.l1,b0),(s.l2,c0),(s.l3,d0)])(hd:cJ a s.f x)(av:¬x.j s.f b)(hn:bt<18446744073709551616)(bo:s.t<18446744073709551616)(bi:s.l<18446744073709551616)(bm:y x.l<=100000000000)(ap:y (a0++b0++c0++d0)<=3000000000)(ao:∃ch bt aV,s.L=am ch bt aV)(bk:∀ad,ad=s.l0\/ad=s.l1\/ad=s.l2\/ad=s.l3->∀r,cN ad=M r->MU s.f b n6 x r)(bq:qp x.fx):cR bN 133 #[aJ b,ef #[v0,v1,v2,v3],bw bt] a λce w'=>CmF a w' b s r bt ca x ps v0 v1 v2 v3 (a0++b0++c0++d0) (y<|ba++bb++aV++bc) ce:=by
 have bx:=c.A;have bd:∀W,I aC a W->CF W s.f b n6 x (a0++b0++c0++d0) ps (ba++bb++aV++bc):=λW k=>{le:=aR c.le k.D,j:=c.j,B:=c.B,xt:=λm e=>(by simp only[aP]at e;obtain((q|q)|q)|q:=e<;>first|exact c.x0 m q|exact c.x1 m q|exact c.x2 m q|exact c.x3 m q),kg:=c.kg,fp:=c.fp,S:=λac w=>⟨(c.S ac w).1.aA k<|λ_ _ q=>q,(c.S ac w).2⟩,i:=c.i,n:=c.n,f:=by simp only[ai];omega,d:=bq,L:=hd.L,l:=bm};go_call Qa n6 ca bt ps v0 v1 v2 v3 ba bb aV bc a0 b0 c0 d0 h c bd bl hd av hn bo bi ap ao bk as ce w'(⟨rfl,w1,wr,KR,p,us,nw,a',b',c',d',dz,br,Q,K,ea,eb,ec,ed,bf,bg,ab,W,al,bh,bE⟩|hE);rotate_left;exact bj hE;have cd:=br.D;have cc:=c.le;have bL:=c.B;have bn:∀ad,sO a s.f b n6 x ad->∀r,cN ad=M r->¬(Wr s.f x ps r\/r=b):=by rintro ad N r e(q|q);(obtain q|⟨ac,w,q|q⟩:=q;exact(N r e).2.1 q;have C:=(c.S ac w).1;obtain bv|⟨cs,fr,bv⟩:=(N r e).2.2.2;have:=(C.lt r<|J q).1;omega;exact lj bv C.D.g cg q;have C:=(c.S ac w).1;obtain bv|⟨cs,fr,bv⟩:=(N r e).2.2.2;have:=(C.lt r<|bj<|bj q).1;omega;let⟨cb,hc⟩:=fZ C.A (k:=ac.x) rfl;grind);exact(N r e).2.2.1 q
 have P:∀r,r<G (H a)->¬x.j s.f r->r≠b->Aside w' p s.f b r:=λr h1 c C=>
  ⟨au h1 W.D,aI,C⟩
 have g:∀r,MU s.f b n6 x r->r<G (H a)/\¬x.j s.f r/\r≠b:=λr e=>⟨bP e.1,e.2.1,e.2.2⟩;have bp:∀ac∈ps,∀r,ac.D r->r<G (H a)/\¬x.j s.f r/\r≠b:=λac w r e=>by have h1:=(c.S ac w).1.lt r e;exact⟨h1.2,λq=>bP<|c.j r q,U⟩
 have A:∀O∈us,∃bT:R->Prop,Dl wr s.f bT O/\(∀r,bT r->r<G (H a)/\¬x.j s.f r/\r≠b):=λO F=>by obtain q|⟨_,ac,w,_,q⟩:=Q.S O F;exact⟨_,(Q.qN O q).h,g⟩;exact⟨_,q,bp ac w⟩
 have hO:∀O∈us,qE w' s.f (vw p.ah) (Aside w' p s.f b) (ja (vw p.ah) O):=λO F=>by let⟨bT,ho,C⟩:=A O F;exact(ho.A (w':=w')<|λr e=>ab r (C r e).1 (C r e).2.1 (C r e).2.2).Ao _<|λr e=>P r (C r e).1 (C r e).2.1 (C r e).2.2
 have u:∀ad(g c:dI),sO a s.f b n6 x ad->Row a 1 ad (y g) (g.map cH.D)->c.map (λm=>(m.tb,m.ks))=g.map (λm=>(m.tb,m.ks))->(∀m∈c,m∈us)->LvO w' p s.f b ad (c.map<|ja<|vw p.ah):=λad g c N hr he C=>by let⟨e1,e2,_⟩:=qz he;refine⟨?_,λr e=>P r (N r e).1 (N r e).2.1 (N r e).2.2.1,λm k=>?_⟩;rw[GB,cS,e1,e2];exact W.bV hr<|λr e=>⟨bn ad N r e,(N r e).1⟩;obtain⟨O,F,rfl⟩:=cC.1 k;exact hO O<|C O F
 have an:∀r,MU s.f b n6 x r->w'.heap[r]?=a.heap[r]?:=λr e=>W.A r (bP e.1) (by
  rintro(q|q)
  .obtain q|⟨ac,w,q|q⟩:=q
   .exact e.2.1 q
   .have:=((c.S ac w).1.lt r<|J q).1;have:=e.1;omega
   .have:=((c.S ac w).1.lt r<|bj<|bj q).1;have:=e.1;omega
  .exact e.2.2 q)
 have bs:∀m∈a',m∈us:=λm k=>by rw[K];simp[k]
 have ax:∀m∈b',m∈us:=λm k=>by rw[K];simp[k]
 have aD:∀m∈c',m∈us:=λm k=>by rw[K];simp[k]
 have aU:∀m∈d',m∈us:=λm k=>by rw[K];simp[k]
 have aa:∀m∈us,ny m.ks:=λm k=>by let⟨bT,ho,_⟩:=A m k;exact ho.jV
 have E:=Q.bM;rw[cQ]at E;have V:a'.map (ja<|vw p.ah)++b'.map (ja<|vw p.ah)++c'.map (ja<|vw p.ah)++d'.map (ja<|vw p.ah)=us.map (ja<|vw p.ah):=by rw[K];simp
 refine J ⟨z,p,dz,a'.map<|ja<|vw p.ah,b'.map<|ja<|vw p.ah,c'.map<|ja<|vw p.ah,d'.map<|ja<|vw p.ah,⟨bf,?_,bh,?_,Q.nl,al,⟨KR,nw,Q.lM,?_,by have:=Q.YE;simp only[ai]at this;omega,λO F=>(Q.L O F).2,λm k=>?_,λO F=>?_⟩,ap⟩,W⟩;exact{D:=⟨z,J ⟨z,z⟩⟩,L:=λr e=>(by cases e),l0:=u v0 ba a' c.b0 c.r0 ea bs,l1:=u v1 bb b' c.b1 c.r1 eb ax,l2:=u v2 aV c' c.b2 c.r2 ec aD,l3:=u v3 bc d' c.b3 c.r3 ed aU,f:=bg,l:=λq=>(al b q).elim av<|λbv=>U,t:=⟨λs p=>(dZ (w:=a)<|an _ c.i).trans<|c.o s p,c.x.dU<|an _ c.n,P _ (g _ c.i).1 (g _ c.i).2.1 (g _ c.i).2.2,P _ (g _ c.n).1 (g _ c.n).2.1 (g _ c.n).2.2⟩,za:=(by rw[tM,tM,tM,tM,(qz ea).2.2,(qz eb).2.2,(qz ec).2.2,(qz ed).2.2];have:=c.FX;simp;omega),v:=c.v,o:=gF.kj,S:=ar,s1:=pW (λm k=>aa m<|ax m k)<|BD eb c.s1.fp,s2:=pW (λm k=>aa m<|aD m k)<|BD ec c.s2.fp,s3:=pW (λm k=>aa m<|aU m k) (BD ed c.s3.fp)};rw[V,iV,show(cH.tb∘ja (vw p.ah))=cH.tb from rfl,YN (T:=ba++bb++aV++bc) (i:=y<|ba++bb++aV++bc)<|cQ▸E,cQ];exact c.kg;rwa[E6,V,Zy];rw[V]at k;obtain⟨O,F,rfl⟩:=cC.1 k;obtain q|⟨q,_⟩:=Q.S O F;exact J ⟨O,q,z,z⟩;exact bj ⟨O,q,z,z⟩;rw[V];exact⟨ja (vw p.ah) O,cC.2 ⟨O,(Q.L O F).1,z⟩,z⟩
def uN(h:Aside a f b c k):MU b c (G<|H a) f k:=⟨h.lt,h.j,h.ne⟩
def qE.zx{B:fB}{t:cH}(h:qE a b N W t)(e:∀k,W k->B k):qE a b N B t:=by
 let⟨f,d,c,i,g⟩:=h.D;exact⟨⟨f,d,c,i,e _ g⟩,e _ h.l,h.cK,h.jV,h.f⟩
def ST.zbq{s:SR}{w:dB}{p:dI}{u C':R}(h:ST a b s f w l C F p u)(m:b<G (H a))(e:((l++C++F++p).map cH.tb).Nodup)(r:ik l+ik C+ik F+ik p<=C')(g:C'<=3000000000):LS a s.f b (G<|H a) f (l++C++F++p) [] C' s.l0 s.l1 s.l2 s.l3 l C F p where
 D:=h.GR
 L:=h.f.L
 le:=aq _
 j:=h.f.lt
 B:=m
 o:=h.t.o
 x:=h.t.x
 i:=uN h.t.i
 n:=uN h.t.n
 sB:=λt d=>by
  simp only[aP]at d;obtain((q|q)|q)|q:=d
  .exact(h.l0.bZ t q).zx<|λ_=>uN
  .exact(h.l1.bZ t q).zx<|λ_=>uN
  .exact(h.l2.bZ t q).zx<|λ_=>uN
  .exact(h.l3.bZ t q).zx<|λ_=>uN
 S:=ar
 fp:=List.Pairwise.nil
 r0:=h.l0.bV
 r1:=h.l1.bV
 r2:=h.l2.bV
 r3:=h.l3.bV
 b0:=λk c=>⟨(h.l0.l k c).lt,(h.l0.l k c).j,(h.l0.l k c).ne,J (h.l0.l k c).lt⟩
 b1:=λk c=>⟨(h.l1.l k c).lt,(h.l1.l k c).j,(h.l1.l k c).ne,J (h.l1.l k c).lt⟩
 b2:=λk c=>⟨(h.l2.l k c).lt,(h.l2.l k c).j,(h.l2.l k c).ne,J (h.l2.l k c).lt⟩
 b3:=λk c=>⟨(h.l3.l k c).lt,(h.l3.l k c).j,(h.l3.l k c).ne,J (h.l3.l k c).lt⟩
 x0:=λt d=>J<|by simp[d]
 x1:=λt d=>J<|by simp[d]
 x2:=λt d=>J<|by simp[d]
 x3:=λt d=>J<|by simp[d]
 kg:=e
 s1:=h.s1
 s2:=h.s2
 s3:=h.s3
 FX:=r
 v:=g
def LS.zao{A B j:ae}{r:dI}{p:NT}(h:LS a b c k f l [] n d w A B v C F r)(x:I aC a e)(u:p.Ok e (G<|H a))(o:Kt p.t)(s:fD e (G<|H a) 235 1 j (y<|v++[p.t]) ((v++[p.t]).map cH.D))(D:ik v+ik C+ik F+ik r+qC p.t.ks<=n):LS e b c k f l [p] n j w A B (v++[p.t]) C F r:=by
 have h':=h.aA (x.aT cY)<|(nW b f).l h.D x cY;refine{h' with S:=?_,fp:=ar,r0:=dQ s,b0:=yr s h.j h.B h.le,x0:=?_,x1:=λt q=>(h.x1 t q).jj [p],x2:=λt q=>(h.x2 t q).jj [p],x3:=λt q=>(h.x3 t q).jj [p],kg:=?_,FX:=?_};intro q g;rw[bY]at g;subst g;exact⟨u.pO h.le,o⟩;intro t q;obtain q|q:=aP.1 q;exact(h.x0 t q).jj [p];rw[bY]at q;exact bj ⟨p,ar,q.symm⟩;(have g:(v++[p.t]++C++F++r).Perm (p.t::(v++C++F++r)):=by simp_all);rw[(g.map cH.tb).nodup_iff,bO,kQ];refine⟨λq=>?_,h.kg⟩;let⟨t,i,E⟩:=cC.1 q;have:=u.lX;(have:t.tb<G (H a):=by simp only[aP]at i;obtain((m|m)|m)|m:=i;exact XT.EA h<|h.x0 t m;exact XT.EA h<|h.x1 t m;exact XT.EA h<|h.x2 t m;exact XT.EA h<|h.x3 t m);omega;rw[iJ];(have:ik [p.t]=qC p.t.ks:=by simp[ik]);omega
def ZH{d:R}(h:QA a e b i O c k n d)(g:i≠[])(j:∀x∈i,x.Good)(l:gF i)(m:y i<=100):NT.Ok e (G<|H a) ⟨⟨b,dK 0 O,O,0⟩,c,k,n,d⟩/\Kt ⟨b,dK 0 O,O,0⟩/\cH.dq ⟨b,dK 0 O,O,0⟩=i:=by
 have f:O.flatten=i:=h.f.p;refine⟨⟨z,z,by show sq O.flatten O;rw[f];exact h.f,h.D,h.A,h.L,h.lX⟩,⟨h.f.ua g j l,h.f.jV g j l m,?_⟩,f⟩;have:=h.f.A;have:=h.f.xM;grind
def LS.X1{u:cy NT}{x A:ae}{N:dI}(h:LS a b c k f l u T d w x A v C F N):∃m,LS a b c k m l u T d w x A v C F N/\cJ a b m/\wR f m/\(∀p,m.j b p->f.j b p)/\Fx f.fx m.fx:=by
 let⟨E,m,s,t,r,B⟩:=h.D;have g:∀p,MU b c k f p->MU b c k m p:=λp o=>⟨o.1,λq=>o.2.1<|r p q,o.2.2⟩;have e:∀s,sO a b c k f s->sO a b c k m s:=λs g p o=>⟨(g p o).1,λq=>(g p o).2.1<|r p q,(g p o).2.2⟩;refine⟨m,{h with D:=Mh s s.lt,L:=s.L,j:=λp o=>h.j p<|r p o,i:=g _ h.i,n:=g _ h.n,sB:=λO K=>?_,b0:=e _ h.b0,b1:=e _ h.b1,b2:=e _ h.b2,b3:=e _ h.b3},s,t,r,B⟩;rw[t.1];exact(h.sB O K).zx g
def LS.dN{L:cy NT}{N O:ae}{aa:dI}(h:LS a b c k f l L n d w N O v C F aa)(r:I W a e)(E:∀j,W j->k<=j/\∃t u,a.heap[j]?=M (aK t 108 u)):LS e b c k f l L n d w N O v C F aa:=by
 have hF:∀j,W j->¬(nW b f).F j:=λj g q=>gV (h.j j q)<|(E j g).1;have s:∀j,MU b c k f j->¬W j:=λj g q=>gV g.1<|(E j q).1;have m:∀B,sO a b c k f B->∀j,cN B=M j->¬W j:=λB A j g q=>by let⟨V,t,u,q2⟩:=E j q;obtain Q|⟨K,P,Q⟩:=(A j g).2.2.2;omega;grind
 have p:∀B,sO a b c k f B->sO e b c k f B:=λB A j g=>by let⟨K,P,Q,V⟩:=A j g;exact⟨au K r.D,P,Q,V.imp id<|λ⟨t,u,e⟩=>⟨t,u,(r.A j K<|m B A j g).trans e⟩⟩
 exact{h with D:=(nW b f).l h.D r hF,le:=aR h.le r.D,o:=λt e=>r.u (h.o t e) (s _ h.i)<|au h.i.1 h.le,x:=h.x.dU<|r.A _ (au h.n.1 h.le)<|s _ h.n,sB:=λu c=>(h.sB u c).A<|λj g=>r.A j (au g.1 h.le)<|s j g,S:=λk a=>⟨Xg.dN (h.S k a).1 r aI,(h.S k a).2⟩,r0:=r.bV h.r0<|λj g=>⟨m _ h.b0 j g,(h.b0 j g).1⟩,r1:=r.bV h.r1<|λj g=>⟨m _ h.b1 j g,(h.b1 j g).1⟩,r2:=r.bV h.r2<|λj g=>⟨m _ h.b2 j g,(h.b2 j g).1⟩,r3:=r.bV h.r3<|λj g=>⟨m _ h.b3 j g,(h.b3 j g).1⟩,b0:=p _ h.b0,b1:=p _ h.b1,b2:=p _ h.b2,b3:=p _ h.b3}
structure SV(w:Z)(sb:R)(s:SR)(k:Y)(lb:R)(K:DK)(T0:dI)(C:R)(wr:Z)(v0 v1 v2 v3:ae)(a b c d:dI)(ps:cy NT):Prop where
 ls:LS wr s.f sb (G<|H w) K T0 ps C v0 v1 v2 v3 a b c d
 lb:wr.heap[lb]?=M (aK #[v0,v1,v2,v3] 108 (0,0))
 g:cU wr sb s k
 aA:I (K.j s.f) w wr
def MR(w:Z)(c:R)(s:SR)(m:Y)(d:R)(K:DK)(a:dI)(C:R)(wr:Z):Prop:=∃f g h i j b k l e,SV w c s m d K a C wr f g h i j b k l e
def xN(w:Z)(a i:R):R:=match bA w (X a i)with
 |some (.slice _ n _)=>n
 |_=>0
def Za{x:Option Addr}{c:R}(h:bA a (X k n)=M (am x T c)):xN a k n=T:=by
 unfold xN;rw[h]
def SV.gK{E wr d:Z}{A B C D u0 u1 u2 u3:ae}{N b O P s t u v:dI}{L g:cy NT}(h:SV E c o r k x l n wr A B C D N b O P L)(K:G (H E)<=k)(j:¬x.j o.f c)(F:LS d o.f c (G<|H E) x l g n u0 u1 u2 u3 s t u v)(m:I (x.j o.f) wr d):d.heap[k]?=M (aK #[A,B,C,D] 108 (0,0))/\SV E c o r k x l n (cP (cP (cP (cP d (X k 0) u0) (X k 1) u1) (X k 2) u2) (X k 3) u3) u0 u1 u2 u3 s t u v g:=by
 have i:¬x.j o.f k:=λq=>bP<|h.ls.j k q;have e:=(m.A k (az h.lb) i).trans h.lb;have a:I (λq=>q=k) d (cP (cP (cP (cP d (X k 0) u0) (X k 1) u1) (X k 2) u2) (X k 3) u3):=(((iP k d).aL _ _ _<|J z).aL _ _ _<|J z).aL _ _ _<|J z;have:c<G (H E):=h.ls.B;refine⟨e,F.dN a<|λq Q=>aI,DU e,?_,?_⟩;have w:=(m.A c (az h.g) j).trans h.g;exact(a.A c (az w)<|λq=>U).trans w;exact(h.aA.aj m<|λ_ q=>J q).aj a aI
def MP.j{w g:Z}{K:DK}{e:gI}(h:MP w K c o e)(d:I (K.j o.f) w g):MP g K c o e:=by
 let⟨b,i,j,a⟩:=h.ex;exact⟨⟨b,i,j.dU<|d.A _ a.lt a.j,au a.lt d.D,a.j,a.ne⟩,h.dL⟩
def LS.Y6{s wr:Z}{o:cy NT}{p r g:ae}{t b u v:dI}(h:LS wr c k n f l o T d w p r t b u v)(j:I aC wr s)(a:fD s (G<|H wr) 104 1 g (y m) (m.map<|Value.int .u64)):LS s c k n f l o T d w p r t b u v/\Row s 1 g (y m) (m.map<|Value.int .u64)/\∀e,cN g=M e->e<G (H s)/\¬f.j c e:=⟨h.aA (j.aT cY)<|(nW c f).l h.D j cY,dQ a,λe i=>⟨(aS a e i).2,λq=>Lw (h.j e q) h.le<|(aS a e i).1⟩⟩
structure MQ(w w':Z)(sb:R)(s:SR)(k:Y)(n C:R)(K:DK)(T0:dI)(v0 v1 v2 v3:ae)(K':DK)(dz:R)(a' b' c' d':dI):Prop where
 g:cU w' sb (s.pV v0 v1 v2 v3 n dz) k
 st:ST w' sb (s.pV v0 v1 v2 v3 n dz) K' [] a' b' c' d' C
 i:((a'++b'++c'++d').map cH.tb).Nodup
 nl:dz<18446744073709551616
 lM:∃(KR:DK)(nw:dI),mr (lw nw) K KR/\mr (vr (Rb dz n [a',b',c',d'])++(oa s T0<|a'++b'++c'++d').map .rm) KR K'/\y nw<=3000000000/\(∀u∈nw,NwT u)/\(∀t∈a'++b'++c'++d',(∃u∈T0,u.cK=t.cK/\u.ks=t.ks)\/∃u∈nw,u.cK=t.cK/\u.ks=t.ks)/\∀u∈nw,∃t∈a'++b'++c'++d',u.cK=t.cK
 qN:y T0<=3000000000
 eQ:gh w w' s.f sb K K'
def Dn:tY->R
 | .ap n a=>if n=fj\/n=kE then y a else 0
 |_=>0
def Mr:tY->R
 | .cr _=>1
 | .rn _ _=>1
 |_=>0
def R8(c:eN):tY->eN
 | .cr n=>c||decide (n=kE)
 |_=>c
def Z5(c:eN):tY->Prop
 | .ap n _=>n≠fj/\(n=kE->c=cz)
 |_=>True
def Dq:eN->cy tY->Prop
 |_,[]=>True
 |c,o::l=>Z5 c o/\Dq (R8 c o) l
def Dq.up{l:cy tY}:∀{c a:eN},(c=cz->a=cz)->Dq c l->Dq a l:=by
 induction l with
 |nil=>intros;trivial
 |cons o l f=>
  rintro c a e⟨b,d⟩;refine⟨?_,f ?_ d⟩
  .cases o<;>simp[Z5]at b|-;exact⟨b.1,λa=>e<|b.2 a⟩
  .cases o<;>simp[R8]<;>grind
def Dq.EZ{l m:cy tY}:∀{d:eN},Dq d l->Dq bD m->Dq d (l++m):=by
 induction l with
 |nil=>exactλ_ h=>h.up ar
 |cons o l c=>exactλ⟨a,b⟩h=>⟨a,c b h⟩
def Dq.pa{l m:cy tY}:∀{e:eN},Dq e (l++m)->Dq e l:=by
 induction l with
 |nil=>intros;trivial
 |cons o l d=>exactλ⟨a,c⟩=>⟨a,d c⟩
def ZE(a:cy af):Dq bD (a.map .rm):=by
 induction a with
 |nil=>trivial
 |cons n a b=>exact⟨trivial,b⟩
structure MT(l:cy tY)(B:R):Prop where
 dL:y l<=13000000000
 nm:∀n,.cr n∈l->Nm n
 ap:(l.map Dn).sum<=B
 rn:∀x g9,.rn x g9∈l->x=kE/\g9=fj
 L:(l.map Mr).sum<=4000000000
 f:Dq bD l
def MT.pa{l m:cy tY}(h:MT m c)(f:l<+:m):MT l c:=by
 obtain⟨r,rfl⟩:=f;have a:=h.dL;have d:=h.ap;rw[ai]at a;rw[bz,eX]at d;have e:=h.L;rw[bz,eX]at e;exact⟨U,λn d=>h.nm n<|gX _ d,U,λx a e=>h.rn x a<|gX _ e,U,h.f.pa⟩
def Xr(K a:DK)(B:R):Prop:=∃l,mr l K a/\MT l B
def Y2(h:∀u∈l,NwT u):(∀n,.cr n∈lw l->Nm n)/\((lw l).map Dn).sum=0/\(∀x a,.rn x a∉lw l)/\((lw l).map Mr).sum=y l:=by
 induction l with
 |nil=>simp[lw]
 |cons u r i=>
  let⟨b,c,d,e⟩:=i (λv a=>h v<|by simp[a]);rw[(by simp[lw]:lw (u::r)=tK u.cK u.cs++lw r)];refine⟨λn f=>?_,?_,λx a g=>?_,by rw[bz,eX,e];simp[tK,Mr];omega⟩
  .obtain q|q:=aP.1 f
   .simp[tK]at q;rw[q];exact zM (h u ar).cK
   .exact b n q
  .rw[bz,eX,c];simp[tK,Dn,uw,Bx]
  .obtain q|q:=aP.1 g
   .simp[tK]at q
   .exact d x a q
def Y4(a:dI):Dq bD (lw a):=by
 induction a with
 |nil=>trivial
 |cons u r b=>
  rw[(by simp[lw]:lw (u::r)=tK u.cK u.cs++lw r)];refine Dq.EZ ?_ b;simp[tK,Dq,Z5,R8,uw,Bx]
def Q2.dk(h:Q2 o f x b):Xr f x (20*b+44):=by
 let⟨D,w,A,a,c,r,B,s,C,g,i⟩:=h;refine⟨D,r,MT.pa ?_ c⟩;let⟨j,k,l,m⟩:=Y2 s
 have e:((a.map tY.rm).map Dn).sum=0:=by
  clear c g i;induction a with
  |nil=>rfl
  |cons v a d=>simpa[Dn]using d
 have p:((a.map tY.rm).map Mr).sum=0:=by
  clear c g i e;induction a with
  |nil=>rfl
  |cons v a d=>simpa[Mr]using d
 refine⟨?_,λv t=>?_,?_,λE n u=>?_,by rw[bz,eX,bz,eX,m,p];simp[vr,Mr];omega,(Y4 w).EZ<|Dq.EZ (by simp[vr,Dq,Z5,R8];decide)<|ZE a⟩;rw[ai,ai,Y3,cS];simp[vr];omega;obtain q|q:=aP.1 t;exact j v q;obtain q|q:=aP.1 q;simp[vr]at q;rw[q];exact Sj;simp at q;rw[bz,eX,bz,eX,k,e];simp[vr,Dn];omega;obtain q|q:=aP.1 u;exact absurd q<|l E n;obtain q|q:=aP.1 q;simpa[vr]using q;simp at q
structure MM(w w':Z)(sb:R)(s:SR)(k:Y)(K K':DK)(N:R)(v:ae):Prop where
 eQ:gh w w' s.f sb K K'
 g:∃s',cU w' sb s' k/\s'.d=s.d/\s'.f=s.f
 f:∃q,v=eW q/\tB w' q
 lM:Xr K K' (20*N+44)
def Xo.pI{f:Ff}(h:Xo f r):1<=r:=by
 obtain⟨rfl,_⟩|⟨rfl|rfl|rfl,_⟩:=h<;>decide
def Q2.aT{K a:DK}(h:Q2 o K a c)(s:c<=k):Q2 o K a k:=by
 let⟨l,q,d,p,e,g,j,m,r,n⟩:=h;exact⟨l,q,d,p,e,g,j,m,U,n⟩
def Q2.pa{a:DK}(h:Q2 o x a c)(j:wR f x):Q2 o f a c:=by
 let⟨m,l,d,k,e,g,i⟩:=h;exact⟨m,l,d,k,e,g.pa j,i⟩
def Xr.YH(h:wR f x):Xr f x c:=⟨[],h,ar,ar,ar,ar,ar,trivial⟩
def Gj(lb:R)(ao aD:R)(wr:Z)(A B D E:ae)(aU b an aV:dI)(ps:cy NT)(h:SV a c o r lb f (l++v++C++F) ao wr A B D E aU b an aV ps)(h0:cU a c o r)(d:ST a c o f i l v C F k)(hn:aD<18446744073709551616)(ad:o.t<18446744073709551616)(aa:o.l<18446744073709551616)(ac:y f.l<=100000000000)(al:qp f.fx):cR bN 133 #[aJ c,ef #[A,B,D,E],bw aD] wr λap t=>(ap=aN ib/\∃j dz L N O P,MQ a t c o r aD ao f (l++v++C++F) A B D E j dz L N O P)\/∃ax j,ap=aN ax/\MM a t c o r f j ao ax:=by
 let⟨K,S,W,p,e3,Q⟩:=h.ls.X1;let⟨e1,_,e2⟩:=id p;have av:=d.A;have w:y (l++v++C++F)<=3000000000:=by have x:=d.FX;have h2:=d.v;have:=je<|λba s=>(d.l0.bZ ba s).p;have:=je d.s1.p;have:=je d.s2.p;have:=je d.s3.p;simp only[ai];omega
 have V:y (aU++b++an++aV)<=ao:=by have:=h.ls.FX;let⟨x,l1,l2,l3⟩:=h.ls.t;have:=je<|λba s=>h.ls.p<|h.ls.x0 ba s;have:=je h.ls.s1.p;have:=je h.ls.s2.p;have:=je h.ls.s3.p;simp only[ai];omega
 have ab:Fw wr c 10 [(o.l0,l),(o.l1,v),(o.l2,C),(o.l3,F)]:=by refine(d.lvm h0).aA h.aA d.l<|λx hi e g=>?_;have:x=0\/x=1\/x=2\/x=3:=aI;obtain rfl|rfl|rfl|rfl:=this;exact(d.l0.l e g).j;exact(d.l1.l e g).j;exact(d.l2.l e g).j;exact(d.l3.l e g).j
 have:=h.ls.B;refine(Th (G<|H a) ao aD ps A B D E aU b an aV l v C F h.g S ab W (λq=>d.l<|e3 c q) hn ad aa (e2▸ac) w ?_ ?_<|Q.D al).mono ?_;let⟨x,an,ap⟩:=cG d.D;exact⟨_,_,_,ap⟩;have x:∀e,Aside a f o.f c e->MU o.f c (G<|H a) K e:=λe q=>⟨q.lt,λg=>q.j<|e3 e g,q.ne⟩;rintro ax(rfl|rfl|rfl|rfl)e g;exact x _<|d.l0.l e g;exact x _<|d.l1.l e g;exact x _<|d.l2.l e g;exact x _<|d.l3.l e g;have:=h.aA.D
 have hT:∀{t:Z},I (λr=>Wr o.f K ps r\/r=c) wr t->I (λe=>f.j o.f e\/e=c) a t:=λs=>(h.aA.aT (T:=λe=>f.j o.f e\/e=c) aI).aj s (λe q=>by
  obtain(q|⟨bb,x,q⟩)|q:=q
  .grind
  .refine bj ?_;obtain q|q:=q
   .exact((h.ls.S bb x).1.lt e<|J q).1
   .exact((h.ls.S bb x).1.lt e<|bj<|bj q).1
  grind)
 have u:∀{j:DK},(∀r,j.j o.f r->K.j o.f r\/G (H wr)<=r)->∀r,j.j o.f r->f.j o.f r\/G (H a)<=r:=aI;rintro ap t(⟨rfl,j,dz,L,N,O,P,m,s⟩|⟨ax,j,rfl,n⟩);refine J ⟨z,j,dz,L,N,O,P,m.g,m.st,m.i,m.nl,?_,w,⟨m.st.f,hT s,u m.j,Q.aj m.fx⟩⟩;let⟨x,nw,o1,o2⟩:=m.lM;exact⟨x,nw,o1.pa p,o2⟩;let⟨q,an,x,r2,r3⟩:=n.f;exact bj ⟨ax,j,z,⟨n.ok,hT n.aA,u n.j,Q.aj n.fx⟩,n.g,⟨q,x,an,r2,r3.pI⟩,((n.lM.pa p).aT V).dk⟩
def MR.DB{ao wr:Z}{sn:gI}(hS:MR ao c o r k f v n wr)(ad:G (H ao)<=k)(al:¬f.j o.f c)(W:MP ao f c o sn)(an:2<=o.ua)(aa:R)(hi:aa<4):∃(s t u w:Option Addr)(n0 n1 n2 n3 x A B C:R)(aD:Option Addr)(g9 m9:R)(ax:eN),wr.heap[k]?=M (aK #[am s n0 x,am t n1 A,am u n2 B,am w n3 C] 108 (0,0))/\(#[am s n0 x,am t n1 A,am u n2 B,am w n3 C]:Array ae)[aa]?=M (am aD g9 m9)/\(cR bN 77 #[aJ c,ay (aa:R),am aD g9 m9] wr λK w2=>K=aN (aO ax)/\w2=wr)/\(ax=cz->∀(j:Z)(P:Option Addr)(N:R)(l:eD),I aC wr j->j.ownsRow (G<|H wr) 104 1 (am P (y l) N) (y l) (l.map<|Value.int .u64)->l.Perm (Gi sn)->cR bN 132 #[ef #[am s n0 x,am t n1 A,am u n2 B,am w n3 C],ay (aa:R),am P (y l) N] j λK w2=>(∃(r0 r1 r2 r3:Option Addr)(m0 m1 m2 m3 t0 t1 t2 t3:R),K=aN (de #[ef #[am r0 m0 t0,am r1 m1 t1,am r2 m2 t2,am r3 m3 t3],ib])/\w2.heap[k]?=M (aK #[am s n0 x,am t n1 A,am u n2 B,am w n3 C] 108 (0,0))/\MR ao c o r k f v n (cP (cP (cP (cP w2 (X k 0)<|am r0 m0 t0) (X k 1)<|am r1 m1 t1) (X k 2)<|am r2 m2 t2) (X k 3)<|am r3 m3 t3)/\xN (cP (cP (cP (cP w2 (X k 0)<|am r0 m0 t0) (X k 1)<|am r1 m1 t1) (X k 2)<|am r2 m2 t2) (X k 3)<|am r3 m3 t3) k aa<xN wr k aa/\∀ab,ab<aa->xN (cP (cP (cP (cP w2 (X k 0)<|am r0 m0 t0) (X k 1)<|am r1 m1 t1) (X k 2)<|am r2 m2 t2) (X k 3)<|am r3 m3 t3) k ab=xN wr k ab)\/Es (nW o.f f) j w2 (f.j o.f) K bL/\w2.heap[k]?=M (aK #[am s n0 x,am t n1 A,am u n2 B,am w n3 C] 108 (0,0)))/\ax=qd o.ua aa (xN wr k aa)/\∀ac,I aC wr ac->cR bN 95 #[aJ c] ac λK w2=>∃O,∃l:eD,K=aN O/\l.Perm (Gi sn)/\fD w2 (G<|H wr) 104 1 O (y l) (l.map<|Value.int .u64)/\I aC wr w2:=by
 let⟨v0,v1,O,v3,av,b,ap,aU,ps,d⟩:=hS;obtain⟨s,x,rfl⟩:=cG d.ls.r0;obtain⟨t,A,rfl⟩:=cG d.ls.r1;obtain⟨u,B,rfl⟩:=cG d.ls.r2;obtain⟨w,C,rfl⟩:=cG d.ls.r3;have L:∀ac,I aC wr ac->cR bN 95 #[aJ c] ac λK w2=>∃O,∃l:eD,K=aN O/\l.Perm (Gi sn)/\fD w2 (G<|H wr) 104 1 O (y l) (l.map<|Value.int .u64)/\I aC wr w2:=λac hW=>by let⟨mb,m1,m2,m3⟩:=(W.j d.aA).ex;go_call wx (b:=mb) sn ((hW.A c (az d.g) id).trans d.g) m1 (m2.dU<|hW.A _ m3.lt id) W.dL as K w2⟨O,l,rfl,l1,l2,l3⟩;exact⟨O,l,z,l1,fh l2 hW.D,hW.t l3⟩
 have h4:∀l:eD,l.Perm (Gi sn)->y l<=4:=λl F=>by have:=F.length_eq;rw[qL]at this;have:=W.dL;omega
 have Q:=λ(j w2:Z)(l:eD)(u0 u1 u2 u3:ae)(g i c' k:dI)(a:cy NT)(p:I aC wr j)(_:l.Perm (Gi sn))(m:LS w2 o.f c (G<|H ao) f v a n u0 u1 u2 u3 g i c' k)(e:I (f.j o.f) j w2)=>d.gK ad al m<|(p.aT (T:=f.j o.f) cY).aj e<|λ_ q=>J q;have:∀(j w2:Z)(K:Ending),I aC wr j->Es (nW o.f f) j w2 (f.j o.f) K bL->w2.heap[k]?=wr.heap[k]?:=λj w2 K p hB=>by let⟨_,_,_,_,_,e⟩:=hB;exact(e.A k (au (az d.lb) p.D)<|λq=>bP<|d.ls.j k q).trans<|p.A k (az d.lb) id
 have a:∀{ac:Z}{u0 u1 u2 u3:ae}(ab:R)(e:Option Addr)(m t:R),ac.heap[k]?=M (aK #[u0,u1,u2,u3] 108 (0,0))->#[u0,u1,u2,u3][ab]?=M (am e m t)->xN ac k ab=m:=λab e m t c d=>Za (x:=e) (c:=t)<|(cE c).trans d;obtain rfl|rfl|rfl|rfl:=(show aa=0\/aa=1\/aa=2\/aa=3 by omega);(.refine⟨s,t,u,w,_,_,_,_,x,A,B,C,s,y av,x,_,d.lb,z,tQ 0 (y av) s x d.g U,λS j P N l p ho F=>?_,by rw[a 0 _ _ _ d.lb rfl],L⟩;(have g:0<y av:=by unfold qd at S;grind);have D:=d.ls.Y6 p ho;go_call D.1.zcl g l P N D.2.1 D.2.2 (h4 l F)as K w2(⟨x',n',c',tm,i,rfl,m,e⟩|hB);rotate_left;(grind[SV.lb]);let⟨x1,E⟩:=Q j w2 l _ _ _ _ _ _ _ _ i p F m e;exact J ⟨_,_,_,_,_,_,_,_,_,_,_,_,z,x1,⟨_,_,_,_,_,_,_,_,i,E⟩,by rw[a 0 _ _ _ E.lb rfl,a 0 _ _ _ d.lb rfl];omega,λab hj=>U⟩);(.refine⟨s,t,u,w,_,_,_,_,x,A,B,C,t,y b,A,_,d.lb,z,tQ 1 (y b) t A d.g U,λS j P N l p ho F=>?_,by rw[a 1 _ _ _ d.lb rfl],L⟩;(have g:0<y b:=by unfold qd at S;grind);have D:=d.ls.Y6 p ho;go_call D.1.zck g l P N D.2.1 D.2.2 (h4 l F)as K w2(⟨xl,nl,cl,x',n',c',b2,c2,i,rfl,m,V,e⟩|hB);rotate_left;(grind[SV.lb]);let⟨x1,E⟩:=Q j w2 l _ _ _ _ _ _ _ _ i p F m e;let⟨_,_,K⟩:=cG m.r1;cases K;exact J ⟨_,_,_,_,_,_,_,_,_,_,_,_,z,x1,⟨_,_,_,_,_,_,_,_,i,E⟩,by rw[a 1 _ _ _ E.lb rfl,a 1 _ _ _ d.lb rfl];omega,λab hj=>by obtain rfl:ab=0:=U;rw[a 0 _ _ _ E.lb rfl,a 0 _ _ _ d.lb rfl]⟩);(.refine⟨s,t,u,w,_,_,_,_,x,A,B,C,u,y ap,B,_,d.lb,z,tQ 2 (y ap) u B d.g U,λS j P N l p ho F=>?_,by rw[a 2 _ _ _ d.lb rfl],L⟩;(have g:0<y ap:=by unfold qd at S;grind);have D:=d.ls.Y6 p ho;go_call D.1.zcj g l P N D.2.1 D.2.2 (h4 l F)as K w2(⟨xl,nl,cl,x',n',c',c2,d2,i,rfl,m,V,e⟩|hB);rotate_left;(grind[SV.lb]);let⟨x1,E⟩:=Q j w2 l _ _ _ _ _ _ _ _ i p F m e;let⟨_,_,K⟩:=cG m.r2;cases K;exact J ⟨_,_,_,_,_,_,_,_,_,_,_,_,z,x1,⟨_,_,_,_,_,_,_,_,i,E⟩,by rw[a 2 _ _ _ E.lb rfl,a 2 _ _ _ d.lb rfl];omega,λab hj=>by obtain rfl|rfl:=(show ab=0\/ab=1 by omega);(rw[a 0 _ _ _ E.lb rfl,a 0 _ _ _ d.lb rfl]);(rw[a 1 _ _ _ E.lb rfl,a 1 _ _ _ d.lb rfl])⟩);refine⟨s,t,u,w,_,_,_,_,x,A,B,C,w,y aU,C,_,d.lb,z,tQ 3 (y aU) w C d.g U,λS=>?_,by rw[a 3 _ _ _ d.lb rfl],L⟩;simp[qd]at S
def QD(w g:Z)(d:R)(b:eD)(f:Ending):Prop:=I aC w g/\((y b<12/\f=aN (de #[aF,aF,aO cz]))\/((∀a,b.take 12≠ij a)/\f=aN (de #[aF,aF,aO bD]))\/∃a,12<=y b/\b.take 12=ij a/\(((y (b.drop 12):Y)<jv (a.take 4)/\f=aN (de #[aF,aF,aO cz]))\/∃(B rest:eD)(c h m9 e:R),b.drop 12=B++rest/\(y B:Y)=jv (a.take 4)/\f=aN (de #[bX d c (y B) h,bX d m9 (y rest) e,aO<|pt B==jv (a.drop 4)])/\y rest<=e/\e<=9223372036854775807/\Bytes w (bX d c (y B) h) B/\Bytes w (bX d m9 (y rest) e) rest))
def M8(cb i g bb:R)(hT:Steps a)(ap:cb<G (H a))(bl:ki m)(hL:bb=y m)(hl:bb<=10000000000000)(cc:bb<=g)(cn:g<=9223372036854775807)(hb:Bytes a (bX cb i bb g) m):cR bN 124 #[bX cb i bb g] a λbc w'=>QD a w' cb m bc:=by
 have cd:∀(ch:eN)(a:Z),(Op.unary .not<|aO ch).run bN a=.ok (aO<|!ch) a:=λ_ _=>rfl;by_cases bx:y m<12;(.have e1:(bb:Y)<12:=U;clear hb;(go_in);go_wp2;(go_ret3);exact⟨I.bI _ _,J ⟨bx,z⟩⟩);rw[hL]at hb;have A:=hb.ot (n:=12) U;have s:=hb.Ec (n:=12) U;rw[<-hL]at s;have bp:=Bv (bX cb i 12 g) (m.take 12) hT A (bl.ot 12) dW;let⟨o,hM⟩:∃o,bb-12=o:=⟨_,rfl⟩;let⟨O,hC⟩:∃O,g-12=O:=⟨_,rfl⟩;rw[hM,hC]at s;have w:y (m.drop 12)=o:=by rw[iY];omega
 have e1:(12:Y)<=(bb:Y):=U;have e2:(bb:Y)<=(g:Y):=U;have e3:¬(bb:Y)<12:=U;have e6:(12:Y)<=(g:Y):=U;let⟨aV,P,HT,u,HM,HL⟩:=nT A s hT w hM hL;clear hb A s hT w hL;go_in
 go_wp21;go_call bp as bc w1⟨hU,x⟩;have aD:I aC a w1:=I.p x;clear bp;obtain⟨rfl,bm⟩|⟨e,b,f,c,hv,co,k,rfl⟩:=hU;(.have an:=ak bm;clear bm x;go_wp2;(go_ret3);exact⟨aD,bj<|J ⟨an,z⟩⟩);have av:y c=8:=by have:=cD y k;rw[dX,ij,ai,dh]at this;omega
 obtain⟨rfl,rfl,rfl⟩:e=cb/\b=i/\f=g:=by injection hv with q1 q2 q3;injection q1 with q1;injection q1 with q4 q5;exact⟨q4.symm,q5.symm,U⟩
 clear hv;have B:ki c:=λch a=>bl ch<|ix (by rw[k];unfold ij;simp[a]);have V:Bytes a (bX e b 8 f) c:=by have h:=ag aV;rw[k]at h;(have h2:Bytes a (bX e b (y<|ij c) f) (ij c):=by rw[show y (ij c)=12 by rw[ij,ai,dh,av]];exact h);have h8:=h2.ot (n:=8) (by rw[ij,ai,dh,av];omega);rwa[ij,jQ U,fA U]at h8
 have bn:=oM (V.dD x (λce hk=>by cases hk;exact ap)) (by intro ce hk;cases hk;exact au ap x.size);rw[av];have t1:fY c bD 4=(c.drop 4,bD,c.take 4):=by unfold fY;rw[fM dW]
 have t2:fY (c.drop 4) bD 4=([],bD,c.drop 4):=by unfold fY;rw[fM dW,rO dW,fA dW]
 have n1:dz c bD 4=jv (c.take 4):=by unfold dz;rw[t1]
 have n2:dz (c.drop 4) bD 4=jv (c.drop 4):=by unfold dz;rw[t2]
 have r1:=jU (n:=4) (m6:=bD) B;have r2:=jU (n:=4) (m6:=bD)<|B.pM 4;rw[n1]at r1;rw[n2]at r2;have C:=λW(hR:Rd W (G<|H w1) c bD)=>vk (G<|H w1) bD W hR B U;have D:=λW(hR:Rd W (G<|H w1) (c.drop 4) bD)=>vk (G<|H w1) bD W hR (B.pM 4) dW;rw[n1,t1]at C;rw[n2,t2]at D;simp only at C D;let⟨d,K⟩:∃d:R,jv (c.take 4)=d:=⟨(jv<|c.take 4).toNat,U⟩;let⟨sm,ax⟩:∃sm,jv (c.drop 4)=sm:=⟨_,rfl⟩;rw[K]at C r1;rw[ax]at D r2;clear n1 n2 t1 t2 V x B;go_wp21;go_call bn as bc w2⟨rfl,aa,E⟩;have ca:I aC w1 w2:=E▸(cI _ w1);have cp:G (H w1)<G (H w2):=by rw[E];simp
 have bq:=C w2 aa;clear aa E bn C;go_wp21;go_call bq as bc w3⟨rfl,ab,bT⟩;have ad:=D w3 ab;clear ab bq D;go_wp21;go_call ad as bc t⟨rfl,bo,bk⟩;have p:I aC a t:=by have h3:I (λce=>ce=G (H w1)) w2 t:=(gH bT).aj (gH bk)<|λ_=>J;exact(aD.t ca).aj h3<|λce hk=>bj<|bP aD.D
 clear bo bk ad;have cj:IntKind.u64.wrap (d:Y)=d:=by rw[dY];omega
 have ck:IntKind.u64.wrap (o:Y)=o:=by rw[dY];omega
 have cl:(o:Y)<=(O:Y):=U;by_cases bi:f=12;(.have bg:o=0:=U;have bE:O=0:=U;have bL:bb=12:=U;have w:=ag u;have an:=K;have ba:=ak (show d=0->QD a t e m (aN<|de #[bX e b 0 0,bX e b 0 0,aO<|pt []==sm])fromλq=>by have hn:m.drop 12=[]:=bG U;refine⟨p,bj<|bj ⟨c,U,k,bj ⟨[],[],b,0,b,0,by rw[hn];rfl,by rw[an,q];rfl,?_,aq _,U,bj ar,bj ar⟩⟩⟩;rw[ax];rfl);have F:=ak<|show(0:Y)<d->QD a t e m (aN<|de #[aF,aF,aO cz])fromλq=>⟨p,bj<|bj ⟨c,U,k,J ⟨by rwa[w,an,bg],z⟩⟩⟩;(have N:∀W,W.heap=t.heap->W.os=t.os->W.tape=t.tape->W.output=t.output->cR bN 186 #[bX e b 0 0] W λbc w'=>bc=aN (eI<|pt [])/\w'=W:=λW h1 h2 h3 h4=>by have hW:=p.df (c:=W) (by rw[h1,h2,h3,h4]);have r:=hW.dD (aq _) cY;exact sV _ [] W (HT.dD r HT.lt) (bj ar) ar);generalize pt []=cB at*;subst bi bL bg bE;clear w an hM hC;obtain bd|bd:=fN d;(.subst bd;have br:=ak<|ag ba z;clear ba F;go_wp21;(go_quiet(first|(go_at_call 186;refine Calls.quiet_of_same (N _ z z z z))));go_wp2;(go_ret3);have h0:=ag br;exact⟨h0.1.df z,h0.2⟩);have e9:(0:Y)<(d:Y):=U;go_wp2;(go_ret3);exact ag F e9);have e4:¬(f=12):=bi;have e5:¬(f-12=0):=U;by_cases cm:o<d;(.have e9:(o:Y)<(d:Y):=U;have F:=ak<|show QD a t e m (aN<|de #[aF,aF,aO cz])from⟨p,bj<|bj ⟨c,U,k,J ⟨by rwa[ag u,K],z⟩⟩⟩;go_wp2;(go_ret3);exact ag F);let⟨aU,rest,v,hB⟩:∃aU rest,m.drop 12=aU++rest/\y aU=d:=⟨(m.drop 12).take d,(m.drop 12).drop d,(du _ _).symm,by rw[dX,ag u];omega⟩;have bh:o-d=y rest:=by have:=ag u;rw[v,ai]at this;omega
 have hd:=ag P;rw[v]at hd;rw[show o=y (aU++rest)by rw[<-v];exact(ag u).symm]at hd;have L:=hd.ot (n:=y aU) ar;rw[rL,hB]at L;have ao:=hd.Ec (n:=y aU) ar;rw[pw,hB,show y (aU++rest)-d=y rest by rw[ai];omega]at ao;have ac:∀W,I aC a W->cR bN 186 #[bX e (b+12) d O] W λbc w'=>bc=aN (eI<|pt aU)/\w'=W:=by intro W hW;have r:=hW.dD (aq _) cY;exact sV _ aU W (HT.dD r HT.lt) (L.dD r (λce hk=>by cases hk;exact ap)) U
 have N:∀W,W.heap=t.heap->W.os=t.os->W.tape=t.tape->W.output=t.output->cR bN 186 #[bX e (b+12) d O] W λbc w'=>bc=aN (eI<|pt aU)/\w'=W:=λW h1 h2 h3 h4=>ac W (p.df<|by rw[h1,h2,h3,h4]);have:(d:Y)<=(o:Y):=U;have:(d:Y)<=(O:Y):=U;have:¬((o:Y)<(d:Y)):=U;have:O<=9223372036854775807:=U;let⟨S,j⟩:∃S,y rest=S:=⟨_,rfl⟩;have Q:=ak (show∀W m9 bt,I aC a W->S<=bt->bt<=9223372036854775807->Bytes a (bX e m9 S bt) rest->QD a W e m (aN<|de #[bX e (b+12) d O,bX e m9 S bt,aO<|pt aU==sm])fromλW m9 bt h1 h2 h3 h4=>by refine⟨h1,bj<|bj ⟨c,U,k,bj ⟨aU,rest,b+12,O,m9,bt,v,by rw[hB,K],?_,j▸h2,h3,hB▸L,j▸h4⟩⟩⟩;rw[hB,j,ax]);rw[j]at bh ao;have bs:=ak<|show S=0->rest=[]fromλq=>bG U;generalize pt aU=cB at*;clear ac L hd v hB j k P aV;by_cases bf:O=d;(.obtain rfl:S=0:=U;obtain rfl:o=O:=U;subst bf;have al:=ak (show∀W,I aC a W->QD a W e m (aN<|de #[bX e (b+12) o o,bX e (b+12) 0 0,aO<|cB==sm])fromλW hW=>ag Q W (b+12) 0 hW (aq _) U<|ag bs z▸bj ar);clear bh;go_wp21;(go_quiet(first|(go_at_call 186;refine Calls.quiet_of_same (N _ z z z z))));go_wp2;(go_ret3);exact ag al _<|p.df z);have:¬(O-d=0):=U;have:¬(O=d):=bf;have al:=ak (show∀W,I aC a W->QD a W e m (aN<|de #[bX e (b+12) d O,bX e (b+12+d) S (O-d:R),aO<|cB==sm])fromλW hW=>ag Q W (b+12+d) (O-d) hW U U ao);go_wp21;(go_quiet(first|(go_at_call 186;refine Calls.quiet_of_same (N _ z z z z))));go_wp2;(go_ret3);exact ag al _<|p.df z
def OT(m:Y)(w:Z):cR bN 72 #[aF,bw m] w λl f=>
 ∃x k a,l=aN (de #[ef #[am x (y ([]:iF)) k,aO bD],aO cz])/\fD f (G (H w)+2) 102 1 (am x (y ([]:iF)) k) (y ([]:iF)) a/\Iv f (G (H w)+2) a []/\I aC w f:=by
 let⟨d,a⟩:∃d,dw (dw w<|aK #[aF,aO bD] 172) (aK #[aF,aO bD] 172)=d:=⟨_,rfl⟩
 have b:d.heap[G<|H w]?=M (aK #[aF,aO bD] 172 (0,0)):=by rw[<-a];grind[gw,aQ]
 have c:d.heap[G (H w)+1]?=M (aK #[aF,aO bD] 172 (0,0)):=a▸aQ _ ar
 have j:I aC w d:=a▸(cI _ w).aE _
 have:=aX b 0
 have:=aX b 1
 have:=aX c 0
 have:=aX c 1
 have:∀i,iH d (X (G<|H w) i)=bD:=λi=>cV b
 have g:=ak a
 clear c a
 go_in
 go_wp2
 rw[ag g]
 refine iW 1 ?_
 rw[im]
 go_wp2
 have e:=aY (i:=1) (u:=aO bD)<|aY (i:=0) (u:=aF) b
 refine ci (pH z _ _ (G<|H w) dE 0 0 bD _ _ z e) z ?_
 exact⟨dE,0,[],z,ct _ _ _ _,⟨z,ar⟩,(j.aL (G<|H w) 0 _<|bj<|aq _).aL (G<|H w) 1 _<|bj<|aq _⟩
def jO.aA{S:fB}{w w':Z}(h:jO w)(c:I S w w')(a:¬S 0):jO w':=by
 unfold jO at*;exact c.u h a<|cA _ _ h
def nj{w b:Z}{db j3:R}{K:DK}(c:cJ w db K)(a:I aC w b):gh w b db j3 K K:=⟨c.aA a<|λ_ _=>id,a.aT cY,λ_ q=>J q,Fx.bI _⟩
def Kg{w c:Z}{db a:R}{K:DK}(d:cJ w db K)(e:¬K.j db a)(b:I (λk=>k=a) w c):gh w c db a K K:=⟨d.aA b aI,b.aT ar,λ_ q=>J q,Fx.bI _⟩
def Steps.aA{S:fB}{w w':Z}(h:Steps w)(d:I S w w')(a:¬S 1):Steps w':=λk c=>d.u (h k c) a h.lt
