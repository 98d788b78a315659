import Derived.Test.YtophdnlmpfmeiaaGreatDoorC17
import Derived.Test.YtophdnlmpfmeiaaGreatDoorC18
namespace Go.Proofs.YtophdnlmpfmeiaaGreatDoor
open ChangeShapes WideShapes RowKit Proofs.Tryz
set_option maxHeartbeats 16000000
set_option linter.all false
set_option maxRecDepth 100000
def qg{w:J}{base m b n:Nat}{v:M}{d:List M}(o:w.ownsRow base m b v n d)(r:0<n):∃g a,v=.slice (some ⟨g,0,none⟩) n a/\base<=g/\g<w.heap.size/\n<=a:=by
 obtain⟨p,⟨_,q⟩|⟨g,a,h,e,f,c,j,_⟩⟩:=o
 ·omega
 ·exact⟨g,a,e,f,ak c,j⟩
structure Br(w0 w:J)(tb:Nat)(l:List E)(cs:List (List E))(bb bJ db eL:Nat):Prop where
 pieces:mD l cs
 mem:js w tb (.pointer none) 0 0 0 0 bb 0 bJ (.slice (some ⟨db,0,none⟩) (cC cs).length eL) (aW 0 cs)
 data:dq w w0.heap.size (.slice (some ⟨db,0,none⟩) (cC cs).length eL) (cC cs)
 xO:w.ownsRow w0.heap.size 316 5 (.slice (some ⟨bb,0,none⟩) (aW 0 cs).length bJ) (aW 0 cs).length (cO (aW 0 cs))
 new:w0.heap.size<=tb
 ay:I (λ_=>False) w0 w
def yt(l:List E)(B j m:Nat)(W:J)(L:Steps W)(P:B<W.heap.size)(N:∀C D,(aF l)[C]?=some D->W.cell? ⟨B,j+C,none⟩=some D)(h:0<l.length)(f:∀ac∈l,ac.Good)(R:l.length<=1000000):Calls prog 105 #[.slice (some ⟨B,j,none⟩) l.length m] W λU e=>∃z a b bJ c eL,U=.returned (.pointer (some ⟨z,0,none⟩))/\Br W e z l a b bJ c eL:=by
 have u:=yP l B j m W L P N h f R;have G:=Z (show∀n r a e,mD l a->dq e W.heap.size n (cC a)->e.ownsRow W.heap.size 316 5 r a.length (cO (aW 0 a))->I (λ_=>False) W e->∃b bJ c eL,r=.slice (some ⟨b,0,none⟩) (aW 0 a).length bJ/\n=.slice (some ⟨c,0,none⟩) (cC a).length eL/\Br W (e.alloc (.cells #[.pointer none,.int .u64 0,.int .u32 0,.int .u32 0,.int .u32 0,.slice (some ⟨b,0,none⟩) (aW 0 a).length bJ,.slice (some ⟨c,0,none⟩) (cC a).length eL] 265)) e.heap.size l a b bJ c eL from by
  intro n r a e k o g q;rw[<-ig a 0]at g;have d:0<(aW 0 a).length:=by
   rw[ig];rcases de a.length with K|K
   ·obtain rfl:=aG K;have:=k.flat;simp at this;rw[this]at h;simp at h
   ·exact K
  have t:0<(cC a).length:=by
   rw[ig]at d;have:=Cl a 0 d;omega
  have O:=k.length;obtain⟨b,bJ,rfl,V,X,H⟩:=qg g d;obtain⟨c,eL,rfl,d1,d2,d3⟩:=qg o t;refine⟨b,bJ,c,eL,rfl,rfl,k,⟨az _ rfl,?_,d,H,by rw[ig];omega⟩,o.alloc _,aM g _,q.size,q.alloc _⟩;intro C D Q;obtain⟨h1,⟨x,h0⟩|⟨b',y,w,x,_,s⟩⟩:=cW (aM g (.cells #[.pointer none,.int .u64 0,.int .u32 0,.int .u32 0,.int .u32 0,.slice (some ⟨b,0,none⟩) (aW 0 a).length bJ,.slice (some ⟨c,0,none⟩) (cC a).length eL] 265))
  ·omega
  ·cases x;exact s C D Q)
 go_enter func105,ntmps105
 go_wp2_with(go_at_call 150;refine u.mono ?_;rintro U A⟨n,r,a,rfl,k,o,g,q⟩;obtain⟨b,bJ,c,eL,rfl,rfl,hF⟩:=(Y G) n r a A k o g q;have F:=Z hF;clear k o g q hF)
 go_ret;exact⟨A.heap.size,a,b,bJ,c,eL,rfl,Y F⟩
section
open Go.Shelf
def Jt{n i k:Nat}{a b c:List M}(f:a.length=n*4)(g:i<=n)(h:b.length=4)(j:c.length=(n+1-i)*4+k):(((a.take (i*4)++c).take (i*4)++b++(a.take (i*4)++c).drop (i*4+b.length)).take ((i+1)*4)++a.drop (i*4)++((a.take (i*4)++c).take (i*4)++b++(a.take (i*4)++c).drop (i*4+b.length)).drop ((i+1)*4+(a.drop (i*4)).length)).take ((n+1)*4)=a.take (i*4)++b++a.drop (i*4):=by
 have d:(a.take (i*4)).length=i*4:=by rw[cU];omega
 have e:(a.take (i*4)++c).take (i*4)=a.take (i*4):=lh d;rw[e,lh (by simp;omega),lh (by simp;omega)]
def Ee(w:J)(base A n i:Nat)(t:Array M)(a:List M)(U:E)(s:Nat)(ao:base<=w.heap.size)(S:w.heap[A]?=some (.cells t 177 (0,0)))(an:t.size=n*4)(o:t.toList.take (n*4)=a)(hv:fX w s U)(hi:i<n)(hn:n<=1000000000)(h1:∀V∈a,V.oneCell'=true):Calls prog 110 #[.slice (some ⟨A,0,none⟩) n n,.int .i64 i,.slice (some ⟨s,0,none⟩) 1 1] w λcb w'=>∃G,cb=.returned (.slice (some ⟨w.heap.size,0,none⟩) (n+1) G)/\w'.ownsRow base 177 4 (.slice (some ⟨w.heap.size,0,none⟩) (n+1) G) (n+1) (a.take (i*4)++aF [U]++a.drop (i*4))/\I (λ_=>False) w w':=by
 have z:a.length=n*4:=by rw[<-o,cU,gM];omega
 have ad:=ak S;have bc:=ak hv;obtain⟨i0,ax,bd,bf,O⟩:=bK mY;have x:(prog.info? 177).map (·.size)=some 4:=by kernel_rfl
 have K:(n:Int)+1-(i:Int)=((n+1-i:Nat):Int):=by omega
 have v:i+(n+1-i)=n+1:=by omega
 have r:(Builtin.firstCells i0.size i (.slice (some ⟨A,0,none⟩) i n)).run prog w.drew=.ok (a.take (i*4)).toArray w.drew:=by
  rw[bf];exact run_firstCells_some w.drew 4 i ⟨A,0,none⟩ i n (a.take (i*4)) (by rw[cU];omega) (λbi V q=>by
   rw[ct,cw];rw[jF]at q;split at q
   ·have:=oW (w:=w.drew) S o bi V 0 (by simpa using q);simpa using this
   ·cases q)
 have m:∀d,(Builtin.append_ #[102,3] d #[.slice (some ⟨A,0,none⟩) i n,.int .i64 ((n:Int)+1-(i:Int))]).run prog w=.ok (.slice (some ⟨w.heap.size,0,none⟩) (n+1) (grownCap w (n+1) n 177)) (w.drew.alloc (.cells ((a.take (i*4)).toArray++Builtin.zeroCells tQ.cells (n+1-i)++Builtin.zeroCells tQ.cells (grownCap w (n+1) n 177-(n+1))) 177)):=λd=>by
  have ca:=Lib.run_append_grow_zeros w 102 3 d 177 i0 _ .i64 .i64 underlying102 underlying3 ax bd (some ⟨A,0,none⟩) i n (a.take (i*4)) r (n+1-i) (by omega) (by omega) (by omega) (by omega) (by rw[O];omega) (by rw[O,v];exact sy (by omega) (by omega));rw[v]at ca;rw[K];exact ca
 obtain⟨G,R⟩:∃G,G=grownCap w (n+1) n 177:=⟨_,rfl⟩;rw[<-R]at m;have ac:n+1<=G:=by rw[R];exact grownCap_ge w _ _ _
 have D:G<=maxLen:=by rw[R];exact oE w (n+1) n _ (by unfold maxLen;omega)
 have bg:G<=9223372036854775807:=by unfold maxLen at D;omega
 obtain⟨Q,f⟩:∃Q:List M,Q=(Builtin.zeroCells tQ.cells (n+1-i)++Builtin.zeroCells tQ.cells (G-(n+1))).toList:=⟨_,rfl⟩;have P:Q.length=(n+1-i)*4+(G-(n+1))*4:=by rw[f];simp[Builtin.zeroCells,tQ,Value.cells]
 have e:((a.take (i*4)).toArray++Builtin.zeroCells tQ.cells (n+1-i)++Builtin.zeroCells tQ.cells (G-(n+1)))=(a.take (i*4)++Q).toArray:=by
  rw[f,Array.append_assoc];apply Array.ext';simp
 rw[e]at m;have y:(aF [U]).length=4:=rfl;have N:(a.drop (i*4)).length=(n-i)*4:=by rw[fE,z];omega
 obtain⟨b,j⟩:∃b,b=a.take (i*4)++Q:=⟨_,rfl⟩;obtain⟨c,k⟩:∃c,c=b.take (i*4)++aF [U]++b.drop (i*4+(aF [U]).length):=⟨_,rfl⟩;obtain⟨g,l⟩:∃g,g=c.take ((i+1)*4)++a.drop (i*4)++c.drop ((i+1)*4+(a.drop (i*4)).length):=⟨_,rfl⟩;have ba:b.length=G*4:=by rw[j,ag,cU];omega
 have bb:c.length=G*4:=by rw[k];simp only[ag,cU,fE];omega
 have L:g.length=G*4:=by rw[l];simp only[ag,cU,fE];omega
 have p:g.take ((n+1)*4)=a.take (i*4)++aF [U]++a.drop (i*4):=by rw[l,k,j];exact Jt z (by omega) rfl P
 rw[<-j]at m;have F:∀(W:J),W.heap[w.heap.size]?=some (.cells b.toArray 177 (0,0))->W.heap[s]?=w.heap[s]?->∀d h,(Builtin.copy_ #[102,101] d #[.slice (some ⟨w.heap.size,i*4,none⟩) (n+1-i) h,.slice (some ⟨s,0,none⟩) 1 1]).run prog W=.ok (goInt (Nat.min 1 (n+1-i))) (W.setRow w.heap.size c.toArray):=λW hW u d h=>by
  rw[k];refine np W _ _ d 177 4 w.heap.size (i*4) _ h ⟨s,0,none⟩ _ 1 b.toArray _ (aF [U]) underlying102 x hW ?_ (λbi V q=>?_) (by simp;omega) (yT U)
  ·rw[y];simp only[sD];split<;>omega
  ·rw[ct,aj (u.trans hv),cw];simpa[aF,E.cells]using q
 have H:∀(W:J),W.heap[w.heap.size]?=some (.cells c.toArray 177 (0,0))->W.heap[A]?=w.heap[A]?->∀d h sc,(Builtin.copy_ #[102,102] d #[.slice (some ⟨w.heap.size,(i+1)*4,none⟩) (n-i) h,.slice (some ⟨A,i*4,none⟩) (n-i) sc]).run prog W=.ok (goInt (Nat.min (n-i) (n-i))) (W.setRow w.heap.size g.toArray):=λW hW u d h sc=>by
  rw[l];refine np W _ _ d 177 4 w.heap.size ((i+1)*4) _ h ⟨A,i*4,none⟩ _ sc c.toArray _ (a.drop (i*4)) underlying102 x hW ?_ (λbi V q=>by rw[ct];exact oW (u.trans S) o bi V _ q) (by simp;omega) (λV hu=>h1 V (cg hu));rw[N];simp only[sD];split<;>omega
 have hA1:((w.alloc (.cells b.toArray 177)).drew).heap[w.heap.size]?=some (.cells b.toArray 177 (0,0)):=az (w:=w) _ rfl;have hA2:((w.alloc (.cells b.toArray 177)).drew).heap[s]?=w.heap[s]?:=dL (w:=w) _ bc;have C:(((w.alloc (.cells b.toArray 177)).drew.setRow w.heap.size c.toArray).drew).heap[w.heap.size]?=some (.cells c.toArray 177 (0,0)):=sw _ _ _ _ _ _ hA1;have X:(((w.alloc (.cells b.toArray 177)).drew.setRow w.heap.size c.toArray).drew).heap[A]?=w.heap[A]?:=(nW _ _ _ _ (by omega)).trans (dL (w:=w) _ ad);have B:=Z (show((((w.alloc (.cells b.toArray 177)).drew.setRow w.heap.size c.toArray).drew).setRow w.heap.size g.toArray).ownsRow base 177 4 (.slice (some ⟨w.heap.size,0,none⟩) (n+1) G) (n+1) (a.take (i*4)++aF [U]++a.drop (i*4))/\I (λ_=>False) w ((((w.alloc (.cells b.toArray 177)).drew.setRow w.heap.size c.toArray).drew).setRow w.heap.size g.toArray)from by
  refine⟨⟨by simp[y];omega,.inr ⟨w.heap.size,G,g.toArray,rfl,ao,sw _ _ _ _ _ _ C,ac,D,by simpa using L,p⟩⟩,?_⟩;have t1:I (λ_=>False) w (w.alloc (.cells b.toArray 177)).drew:=((I.refl (λ_=>False) w).alloc _).of_heap rfl;have t2:I (λ_=>False) w ((w.alloc (.cells b.toArray 177)).drew.setRow w.heap.size c.toArray).drew:=(t1.trans (wM _ w.heap.size c.toArray) (λk d=>.inr (by omega))).of_heap rfl;exact t2.trans (wM _ w.heap.size g.toArray) (λk d=>.inr (by omega)))
 have al:=λd h=>F _ hA1 hA2 d h;have bT:¬((i:Int)=(n:Int)):=by omega
 have bt:IntKind.i64.wrap ((i:Int)+1)=(i:Int)+1:=by rw[bu];omega
 have bv:IntKind.i64.wrap ((n:Int)+1)=(n:Int)+1:=by rw[bu];omega
 have bx:IntKind.i64.wrap ((n:Int)+1-(i:Int))=(n:Int)+1-(i:Int):=by rw[bu];omega
 have bs:((i:Int)+1).toNat=i+1:=by omega
 have bh:((n:Int)+1).toNat=n+1:=by omega
 have bn:(0:Int)<=(i:Int)+1:=by omega
 have br:i<=n:=by omega
 have bo:(i:Int)<=(n:Int)+1:=by omega
 have bp:(n:Int)<(n:Int)+1:=by omega
 have bk:¬(G=i):=by omega
 have bl:¬(G=i+1):=by omega
 have bq:¬(n=i):=by omega
 have T:prog.follows .mixedOrders=true:=by kernel_rfl
 clear j k l ba bb L p y N P e f R v K r z o h1 an x hv S;go_enter func110,ntmps110
 go_wp2_with(at_builtin;refine Lib.wpList_append_run _ rfl _ _ _ _ rfl _ _ rfl rfl _ _ (m _) ?_)
 go_region_law_o (refine tZ rfl _ _ 102 102 rfl (.slice (some ⟨w.heap.size,(i+1)*4,none⟩) (n-i) (G-(i+1))) (.slice (some ⟨A,i*4,none⟩) (n-i) (n-i)) (by simp[Act.eval,Act.put]) (by simp[Act.eval,Act.put]) (H _ C X 3 _ _) ?_)
 go_wp2;go_ret;exact⟨G,rfl,Y B⟩
def Gh(w:J)(base:Nat)(z:M)(n m:Nat)(c:List M)(D:E)(f:Nat)(u:w.ownsRow base 177 4 z n c)(B:base<=w.heap.size)(v:fX w f D)(t:z.ownBlock≠some f)(L:m<=n)(s:n<=1000000000)(A:∀N∈c,N.oneCell'=true):Calls prog 110 #[z,.int .i64 m,.slice (some ⟨f,0,none⟩) 1 1] w λy k=>∃e,y=.returned e/\k.ownsRow base 177 4 e (n+1) (c.take (m*4)++aF [D]++c.drop (m*4))/\I (λG=>z.ownBlock=some G) w k/\(e.ownBlock=z.ownBlock\/∃K,e.ownBlock=some K/\w.heap.size<=K):=by
 have x:=u.1;by_cases p:m=n
 ·subst p;refine(Gg w base z m c D f u B v s).mono ?_;rintro y k⟨e,rfl,h,d⟩;refine⟨e,rfl,?_,I.bz d.grown (λG q=>.inl q),d.sr⟩;rw[<-x,bD,eJ,cN];exact h
 ·rcases u.2 with⟨rfl,rfl⟩|⟨H,a,g,rfl,o,C,F,r,i,j⟩
  ·omega
  by_cases b:n+1<=a
  ·refine(Ca w base H a n m g c D f o C b (by unfold maxLen at r;omega) i j v (λy=>t (by rw[y];rfl)) (by omega) s A).mono ?_;rintro y k⟨rfl,h,d⟩;exact⟨_,rfl,h,d.mono (λG q=>.inl (by rw[q];rfl)),.inl rfl⟩
  ·obtain rfl:a=n:=by omega
   refine(Ee w base H a m g c D f B C i j v (by omega) s A).mono ?_;rintro y k⟨O,rfl,h,d⟩;exact⟨_,rfl,h,d.mono (λ_ c=>c.elim),.inr ⟨_,rfl,ai _⟩⟩
end
def Dv{l m:List E}{k:Nat}(h:k<m.length):cq l (m.take (k+1))=kn (cq l (m.take k)) m[k]:=by
 unfold cq;rw[aq h,fR];rfl
def II(l:List E)(e:E):(kn l e).length<=l.length+1:=by
 have:∀l:List E,(l.filter (λx=>ep x.key e.key)).length+(l.filter (λx=>ep e.key x.key)).length<=l.length:=by
  intro l;induction l with
  |nil=>simp
  |cons x r a=>
   cases c:ep x.key e.key with
   |true=>
    rw[dW (by simp[c]),cA (by simp[fV c])];simp only[aE];omega
   |false=>
    rw[cA (by simp[c])];cases d:ep e.key x.key with
    |true=>rw[dW (by simp[d])];simp only[aE];omega
    |false=>rw[cA (by simp[d])];simp only[aE];omega
 have:=this l;unfold kn;simp only[ag,aE];omega
def mV(l m:List E):(cq l m).length<=l.length+m.length:=by
 unfold cq;induction m generalizing l with
 |nil=>simp
 |cons e r a=>
  have b:=a (kn l e);have c:=II l e;simp only[eh,aE];omega
def Mh(l:List E)(p:Nat)(x:E)(h:p<l.length):((((aF l).set (p*4) (.string x.key)).set (p*4+1) (.string x.val)).set (p*4+2) (.bool x.del)).set (p*4+3) (.int .u64 x.bV)=aF (l.set p x):=by
 induction l generalizing p with
 |nil=>simp at h
 |cons y r b=>
  have e:∀(y:E)(r:List E),aF (y::r)=.string y.key:: .string y.val:: .bool y.del:: .int .u64 y.bV::aF r:=λy r=>by simp[aF,E.cells]
  cases p with
  |zero=>rw[ae,e,e];simp
  |succ p=>
   have a:p<r.length:=by simpa using h
   rw[af,e,e,<-b p a];rw[show(p+1)*4=p*4+1+1+1+1 by omega];simp only[af]
def Lg{w:J}{base g a p:Nat}{l:List E}(x:E)(k:w.ownsRow base 177 4 (.slice (some ⟨g,0,none⟩) l.length a) l.length (aF l))(m:p<l.length):((((w.setCell ⟨g,p*4,none⟩ (.string x.key)).setCell ⟨g,p*4+1,none⟩ (.string x.val)).setCell ⟨g,p*4+2,none⟩ (.bool x.del)).setCell ⟨g,p*4+3,none⟩ (.int .u64 x.bV)).ownsRow base 177 4 (.slice (some ⟨g,0,none⟩) l.length a) (l.set p x).length (aF (l.set p x)):=by
 refine⟨iS _,.inr ?_⟩;rcases k.2 with⟨c,q⟩|⟨o,i,n,c,e,j,b,f,d,h⟩
 ·cases c
 cases c;refine⟨g,a,_,by rw[fB],e,aL (aL (aL (aL j))),by rw[fB];exact b,f,by simpa using d,?_⟩;simp only[Array.toList_setIfInBounds,List.take_set,fB,h];exact Mh l p x m
def yi(v mv:M)(l p:List E)(U:J)(cj:nT U v l)(hm:nT U mv p)(hs:fG l)(hl:l.length+p.length<=100000000)(bc:∀k,v.ownBlock=some k->k<U.heap.size)(ax:∀k,mv.ownBlock=some k->k<U.heap.size):Calls prog 67 #[v,mv] U λbd w'=>∃v',bd=.returned v'/\w'.ownsRow U.heap.size 177 4 v' (cq l p).length (aF (cq l p))/\I (λ_=>False) U w':=by
 have ad:=GI v l U cj (by omega) bc;obtain⟨mx,mc,bs⟩:=bA hm;obtain⟨vx,vc,cd⟩:=bA cj;have HM:=Z hm;have bh:=Z ax;have HS:=Z hs;clear cj bc hm ax hs;subst bs;subst cd;go_enter func67,ntmps67
 go_wp2_with fail
 refine ad.mono ?_;rintro bd w1⟨v1,rfl,O,ac⟩;obtain⟨x1,c1,cc⟩:=aC O;subst cc;have bi:=Z O;have bl:=Z (I.aR (S:=λ_=>False) ac);clear O ac ad;go_wp2_with fail
 go_loopw [5,14] (λo i wr=>∃(k:Nat),k<=p.length/\i=.int .i64 k/\wr.ownsRow U.heap.size 177 4 o (cq l (p.take k)).length (aF (cq l (p.take k)))/\I (λ_=>False) U wr) (λ_ i _=>p.length-(intOf i).toNat)
 case atStart=>exact⟨0,aU _,rfl,Y bi,Y bl⟩
 case round=>
  obtain⟨k,Q,rfl,R,C⟩:=hrel;obtain⟨nx,nc,bv⟩:=aC R;subst bv;by_cases B:k<p.length
  ·have e1:(k:Int)<(p.length:Int):=by omega
   have t:=Dv (l:=l) B;have P:fG (cq l (p.take k)):=(Y HS).cq _;have br:(cq l (p.take k)).length<=100000000:=by have:=mV l (p.take k);have:=List.length_take_le k p;omega
   generalize cq l (p.take k)=a at R t P br|-;obtain⟨bp,⟨ba,cs⟩|⟨bf,D,ck,ba,bq,H⟩⟩:=Y HM
   ·exfalso;omega
   cases ba;have q:bf<U.heap.size:=(Y bh) bf rfl;have m:=dP p k B;have cv:bf<wr.heap.size:=ah q C.size;have bx:wr.cell? ⟨bf,D+k*4,none⟩=some (.string p[k].key):=C.cell (H _ _ m.1) id q;have bT:wr.cell? ⟨bf,D+k*4+1,none⟩=some (.string p[k].val):=C.cell (by rw[aP];exact H _ _ m.2.1) id q;have ca:wr.cell? ⟨bf,D+k*4+2,none⟩=some (.bool p[k].del):=C.cell (by rw[aP];exact H _ _ m.2.2.1) id q;have cb:wr.cell? ⟨bf,D+k*4+3,none⟩=some (.int .u64 p[k].bV):=C.cell (by rw[aP];exact H _ _ m.2.2.2) id q;have F:=Z t;have A:=Z P;have K:=Z R;have X:=Z C;clear m H bp bq t P R C;generalize p[k]=cE at*;obtain⟨b,j,h,g⟩:=cE;simp only at bx bT ca cb;have x:I (λ_=>False) wr (wr.alloc (.cells #[.string b,.string j,.bool h,.int .u64 g] 177)):=(I.refl _ _).alloc _;have c:=vX (.slice nx a.length nc) a b (wr.alloc (.cells #[.string b,.string j,.bool h,.int .u64 g] 177)) (cW (x.own (Y K) (λ_ _ G=>G))) (Y A) (by omega) (λbf d=>by have:=((Y K).lt bf d).2;simp;omega);have bb:=Le a b;by_cases s:∃cj:pos a b<a.length,a[pos a b].key=b
   ·rw[oF s]at c;obtain⟨N,al⟩:=s;have w:=(Y A).Nd ⟨b,j,h,g⟩ N al;simp only at w;have W:=Z w;clear w al;generalize pos a b=z at*;go_wp2_with fail
    refine c.mono ?_;rintro bd n⟨rfl,o⟩;have e:fX n wr.heap.size ⟨b,j,h,g⟩:=(o.block _ (by simp)).trans (az _ rfl);have d:I (λ_=>False) wr n:=x.trans (I.aR (S:=λ_=>False) o) (λ_ G=>G.elim);have f:=d.own (Y K) (λ_ _ G=>G);obtain⟨q0,q1,q2,q3⟩:=e.cells;have ao:=ak e;simp only at q0 q1 q2 q3;have an:∀L,(Value.slice nx a.length nc).ownBlock=some L->L<wr.heap.size:=λL m=>((Y K).lt L m).2;rcases f.2 with⟨h2,h0⟩|⟨L,ce,cB,h2,bn,m,ch,bo,bk,y⟩
    ·exfalso;omega
    cases h2;have cx:L≠wr.heap.size:=λbd=>by have:=an L rfl;omega
    have r:=dP a z N;have r0:n.cell? ⟨L,z*4,none⟩=some (.string a[z].key):=by simpa using oW m y _ _ 0 (by simpa using r.1)
    have r1:n.cell? ⟨L,z*4+1,none⟩=some (.string a[z].val):=by simpa using oW m y _ _ 0 (by simpa using r.2.1)
    have r2:n.cell? ⟨L,z*4+2,none⟩=some (.bool a[z].del):=by simpa using oW m y _ _ 0 (by simpa using r.2.2.1)
    have r3:n.cell? ⟨L,z*4+3,none⟩=some (.int .u64 a[z].bV):=by simpa using oW m y _ _ 0 (by simpa using r.2.2.2)
    have f0:∀j,n.frozen? ⟨L,j,none⟩=false:=λj=>by simp[World.frozen?,m]
    have cl:=f0 (z*4);have cm:=f0 (z*4+1);have cn:=f0 (z*4+2);have cp:=f0 (z*4+3);have V:=Z f;have bg:=Z d;clear an r f0 f d e m bk y bo bn c x;generalize wr.heap.size=eb at*;generalize a[z]=cM at*;obtain⟨yk,yv,yd,yb⟩:=cM;simp only at r0 r1 r2 r3;go_wp2;have bt:∀k,k=L->U.heap.size<=k:=λk Q=>by rw[Q];exact((Y V).lt L rfl).1
    refine⟨⟨k+1,B,by go_num,?_,?_⟩,by simp[intOf];omega⟩
    ·rw[Y F,<-Y W];exact Lg ⟨b,j,h,g⟩ (Y V) N
    ·refine((((Y X).trans (Y bg) (λ_ G=>G.elim)).setCell _ _ _ ?_).setCell _ _ _ ?_|>.setCell _ _ _ ?_|>.setCell _ _ _ ?_)<;>exact .inr (bt L rfl)
   ·rw[nL s]at c;have r:=(Y A).Nz ⟨b,j,h,g⟩ ((Y A).MK b (λa bd=>s ⟨a,bd⟩));simp only at r;have w:=Z r;clear r s;generalize pos a b=z at*;go_wp2_with fail
    refine c.mono ?_;rintro bd n⟨rfl,o⟩;have e:fX n wr.heap.size ⟨b,j,h,g⟩:=(o.block _ (by simp)).trans (az _ rfl);have d:I (λ_=>False) wr n:=x.trans (I.aR (S:=λ_=>False) o) (λ_ G=>G.elim);have f:=d.own (Y K) (λ_ _ G=>G);obtain⟨q0,q1,q2,q3⟩:=e.cells;have ao:=ak e;simp only at q0 q1 q2 q3;have N:I (λ_=>False) n (n.alloc (.cells #[.string b,.string j,.bool h,.int .u64 g] 177)):=(I.refl _ _).alloc _;have y:=N.own f (λ_ _ G=>G);have ce:=(Y X).size;have an:=d.size;have V:=Gh (n.alloc (.cells #[.string b,.string j,.bool h,.int .u64 g] 177)) U.heap.size (.slice nx a.length nc) a.length z (aF a) ⟨b,j,h,g⟩ n.heap.size y (by simp;omega) (az _ rfl) (λbd=>by have:=(f.lt _ bd).2;omega) bb (by omega) (Oi a);have bn:=Z (((Y X).trans d (λ_ G=>G.elim)).trans N (λ_ G=>G.elim));have bg:=Z (λk Q=>(y.lt k Q).1);clear e d f N y o c x ce an;generalize wr.heap.size=eb at*;go_wp2_with fail
    refine V.mono ?_;rintro bd w4⟨v4,rfl,L,al,_⟩;obtain⟨x4,c4,bt⟩:=aC L;subst bt;have bk:=Z L;have bo:=Z al;clear L al V;go_wp2;refine⟨⟨k+1,B,by go_num,?_,?_⟩,by simp[intOf];omega⟩
    ·have e4:(aF a).take (z*4)++aF [⟨b,j,h,g⟩]++(aF a).drop (z*4)=aF (kn a ⟨b,j,h,g⟩):=by
      rw[<-Y w,eK,show(⟨b,j,h,g⟩:E)::a.drop z=[⟨b,j,h,g⟩]++a.drop z from rfl,eK,aV];have H:=bB aF (bF z a);rw[eK]at H;have W:(aF (a.take z)).length=z*4:=by rw[iS,cU];omega
      rw[<-H,lh W,List.drop_left' W]
     have l4:(kn a ⟨b,j,h,g⟩).length=a.length+1:=by
      rw[<-Y w,ag,aE,cU,fE];omega
     rw[Y F,l4,<-e4];exact Y bk
    ·exact(Y bn).trans (Y bo) (λk Q=>.inr ((Y bg) k Q))
  ·have e1:¬(k:Int)<(p.length:Int):=by omega
   have a:k=p.length:=by omega
   have b:=Z (show cq l p=cq l (p.take k)by rw[a,bD]);have K:=Z R;have X:=Z C;clear R C a;go_wp2;go_ret;exact⟨_,rfl,by rw[Y b];exact Y K,Y X⟩
def kw(bV:Int)(c:nk):E:=⟨c.key,if c.del then⟨#[]⟩else c.val,c.del,bV⟩
def Eu(C:M)(b:List nk)(bV:Int)(w:J)(hp:tD w C b)(hv:∀k,C.ownBlock=some k->k<w.heap.size)(hr:b.length<=1000000)(hz:∀cm∈b,cm.key.size<=140737488351232/\cm.val.size<=140737488351232):Calls prog 65 #[C,.int .u64 bV] w λcn w'=>∃v',cn=.returned v'/\w'.ownsRow w.heap.size 177 4 v' b.length (aF (b.map (kw bV)))/\I (λ_=>False) w w':=by
 have cs:∀(cm:Bool)(w:J),(Op.unary .not (.bool cm)).run prog w=.ok (.bool (!cm)) w:=λ_ _=>rfl;obtain⟨i0,an,ax,ba,bb⟩:=bK mY;obtain⟨dc,cc,ca⟩:=bA hp;have HP:=Z hp;have HV:=Z hv;have HZ:=Z hz;clear hp hv hz;subst ca;go_enter func65,ntmps65
 go_wp2_with(at_make;refine gO _ rfl _ _ 101 rfl w.heap.size 177 i0 tQ 4 underlying101 an ax ba _ _ _ b.length rfl rfl rfl (by rw[bb];omega) (by unfold maxLen;omega) (ai _) ?_;intro w1 H G;have O:=Z H;have bd:=Z G;clear H G)
 go_loopw [5,14] (λo i wr=>∃(k:Nat),k<=b.length/\i=.int .i64 k/\wr.ownsRow w.heap.size 177 4 o k (aF ((b.take k).map (kw bV)))/\I (λ_=>False) w wr) (λ_ i _=>b.length-(intOf i).toNat)
 case atStart=>exact⟨0,aU _,rfl,Y O,I.bz (Y bd) (by simp)⟩
 case round=>
  obtain⟨k,hk,rfl,ho,z⟩:=hrel;obtain⟨nx,nc,cd⟩:=aC ho;subst cd;by_cases t:k<b.length
  ·have e1:(k:Int)<(b.length:Int):=by omega
   obtain⟨bT,⟨br,cx⟩|⟨bt,g,cv,br,cb,hc⟩⟩:=Y HP
   ·exfalso;omega
   cases br;have E:bt<w.heap.size:=(Y HV) bt rfl;have hg:=iO b k t;have cB:bt<wr.heap.size:=ah E z.size;have ch:wr.cell? ⟨bt,g+k*3,none⟩=some (.string b[k].key):=z.cell (hc _ _ hg.1) id E;have cj:wr.cell? ⟨bt,g+k*3+1,none⟩=some (.string b[k].val):=z.cell (by rw[aP];exact hc _ _ hg.2.1) id E;have ck:wr.cell? ⟨bt,g+k*3+2,none⟩=some (.bool b[k].del):=z.cell (by rw[aP];exact hc _ _ hg.2.2) id E;have cl:=(Y HZ) _ (au t);have bf:=Z (show(b.take (k+1)).map (kw bV)=(b.take k).map (kw bV)++[kw bV b[k]]by rw[aq t,aN];rfl);have HO:=Z ho;have HT:=Z z;clear hg hc bT cb ho z;generalize b[k]=cm at*;obtain⟨c,l,e⟩:=cm;simp only at ch cj ck cl;have bn:=λW=>qY c W (by omega);have bo:=λW=>qY l W (by omega);go_wp2_with fail
   rename_i QQ KK bh;have f:(wr.alloc (.cells #[.string c,.string l,.bool e] 42)).heap[wr.heap.size]?=some (.cells #[.string c,.string l,.bool e] 42 (0,0)):=az _ rfl;have ad:I (λ_=>False) w (wr.alloc (.cells #[.string c,.string l,.bool e] 42)):=(Y HT).alloc _;have X:=aM (Y HO) (.cells #[.string c,.string l,.bool e] 42);generalize wr.alloc (.cells #[.string c,.string l,.bool e] 42)=d at f ad X|-;generalize wr.heap.size=m at f|-;have s:d.drew.cell? ⟨m,0,none⟩=some (.string c)/\d.drew.cell? ⟨m,2,none⟩=some (.bool e):=⟨by show d.cell? _=_;rw[aj f];rfl,by show d.cell? _=_;rw[aj f];rfl⟩;have u:=ak f;have r:=Z (show∀bg,I (λ_=>False) d bg->bg.cell? ⟨m,0,none⟩=some (.string c)/\bg.cell? ⟨m,2,none⟩=some (.bool e)fromλbg a=>⟨a.cell s.1 id u,a.cell s.2 id u⟩);have bc:=Z f;have P:=Z ad;have L:=Z X;clear f ad X;refine bM (λbg=>bg.cell? ⟨m,0,none⟩=some (.string c)/\bg.cell? ⟨m,2,none⟩=some (.bool e)) 8 (by kernel_rfl) ?_;refine cz 0 ?_;iterate 2 (refine cy (v:=?_) s rfl (by kernel_rfl) (λ_ _ _ bv=>bv) (Or.inl ⟨by rfl,?_⟩) ?_;rotate_left;(focus(rintro bg⟨z0,z2⟩;go_simp;try with_reducible rfl));simp only[Act.put,Nat.reduceAdd,ab,ae,af])
   refine dG ?_;refine cz 3 ?_;iterate 3 (refine cy (v:=?_) s rfl (by kernel_rfl) (λ_ _ _ bv=>bv) (Or.inl ⟨by rfl,?_⟩) ?_;rotate_left;(focus(rintro bg⟨z0,z2⟩;go_simp;try with_reducible rfl));simp only[Act.put,Nat.reduceAdd,ab,ae,af])
   refine dG ?_;refine pK (α:=Nat) (λa W=>I (λ_=>False) d W/\W.heap[a]?=some (.cells #[.string ⟨#[]⟩,.string ⟨#[]⟩,.bool false,.int .u64 0] 177 (0,0))/\d.heap.size<=a) (λa=>{tmps:=#[.slice (some ⟨bt,g,none⟩) b.length cc,.int .u64 bV,undef,undef,.slice none 0 0,.slice nx k nc,undef,.pointer (some ⟨m,0,none⟩),.pointer (some ⟨a,0,none⟩),.slice (some ⟨bt,g,none⟩) b.length cc,.int .i64 b.length,.slice (some ⟨w.heap.size,0,none⟩) 0 b.length,.slice (some ⟨bt,g,none⟩) b.length cc,.int .i64 b.length,.int .i64 k,.bool true,.pointer (some ⟨bt,g+k*3,none⟩),.agg #[.string c,.string l,.bool e],.pointer (some ⟨m,0,none⟩),.string c,.string c,.pointer (some ⟨m,2,none⟩),.bool e,.int .u64 bV,.agg #[.string c,.string ⟨#[]⟩,.bool e,.int .u64 bV],u25,u26,u27,u28,u29,u30,u31,u32,u33,u34,u35,u36,undef],defers:=[]}) #[true,true,true,true,true,true,true,true,false] 1 ?_ ?_
   ·intro bl;refine oN (i:=2) (j:=7) rfl rfl rfl rfl (by kernel_rfl) ?_ ?_
    ·intro db hK;go_simp;refine(bn _).mono ?_;rintro cn w4⟨rfl,D⟩;have p:I (λ_=>False) d w4:=(bS (λ_=>False) d).trans (I.aR (S:=λ_=>False) D) (λ_ C=>C.elim);have bi:=(Y r) w4 p;refine hK _ _ (λ_=>bi) ?_;try simp only[Act.put,ab,ae,af]
     refine da (i:=6) (v:=?_) rfl rfl (by kernel_rfl) (by kernel_rfl) (by kernel_rfl) (by kernel_rfl) (λ_ _ _ bv=>bv) (Or.inl ⟨by rfl,?_⟩) bi ?_;rotate_left
     ·rintro bg⟨z0,z2⟩;go_simp;try with_reducible rfl
     try simp only[Act.put,ab,ae,af]
     refine aI (i:=7) rfl rfl (by kernel_rfl) ?_;intro K2 V;go_simp;have A:=p.alloc (.cells #[.string ⟨#[]⟩,.string ⟨#[]⟩,.bool false,.int .u64 0] 177);refine V _ _ (λ_=>(Y r) _ A) ?_;exact ie (bl w4.heap.size _ ⟨A,az _ rfl,p.size⟩) (by kernel_rfl)
    ·intro db hK;go_simp;have p:I (λ_=>False) d ((d.alloc (.cells #[.string ⟨#[]⟩,.string ⟨#[]⟩,.bool false,.int .u64 0] 177)).drew):=((I.refl (λ_=>False) d).alloc _).of_heap rfl;have D:((d.alloc (.cells #[.string ⟨#[]⟩,.string ⟨#[]⟩,.bool false,.int .u64 0] 177)).drew).heap[d.heap.size]?=some (.cells #[.string ⟨#[]⟩,.string ⟨#[]⟩,.bool false,.int .u64 0] 177 (0,0)):=az (w:=d) _ rfl;refine hK _ _ (λ_=>(Y r) _ p) ?_;refine aI (i:=2) rfl rfl (by kernel_rfl) ?_;intro K2 V;go_simp;refine(bn _).mono ?_;rintro cn w5⟨rfl,bk⟩;have A:I (λ_=>False) d w5:=p.trans (I.aR (S:=λ_=>False) bk) (λ_ C=>C.elim);have bx:=((I.aR (S:=λ_=>False) bk).block _ (ak D) id).trans D;have bi:=(Y r) _ A;refine V _ _ (λ_=>bi) ?_;try simp only[Act.put,ab,ae,af]
     refine da (i:=6) (v:=?_) rfl rfl (by kernel_rfl) (by kernel_rfl) (by kernel_rfl) (by kernel_rfl) (λ_ _ _ bv=>bv) (Or.inl ⟨by rfl,?_⟩) bi ?_;rotate_left
     ·rintro bg⟨z0,z2⟩;go_simp;try with_reducible rfl
     try simp only[Act.put,ab,ae,af]
     exact ie (bl d.heap.size _ ⟨A,bx,ai _⟩) (by kernel_rfl)
   rintro a W⟨z,F,o⟩;have bq:=ak F;refine aI (i:=8) rfl rfl (by kernel_rfl) ?_;intro db hK;have q0:W.cell? ⟨a,0,none⟩=some (.string ⟨#[]⟩):=by rw[aj F];rfl
   have q1:W.cell? ⟨a,1,none⟩=some (.string ⟨#[]⟩):=by rw[aj F];rfl
   have q2:W.cell? ⟨a,2,none⟩=some (.bool false):=by rw[aj F];rfl
   have q3:W.cell? ⟨a,3,none⟩=some (.int .u64 0):=by rw[aj F];rfl
   have fz:∀j,W.frozen? ⟨a,j,none⟩=false:=λj=>by simp[World.frozen?,F]
   go_simp;refine hK _ _ (λC=>(C rfl).elim) ?_;refine cr (by kernel_rfl) ?_ _;show KK _ _;refine bh _ _ ?_;have U:fX ((((W.setCell ⟨a,0,none⟩ (.string c)).setCell ⟨a,1,none⟩ (.string ⟨#[]⟩)).setCell ⟨a,2,none⟩ (.bool e)).setCell ⟨a,3,none⟩ (.int .u64 bV)) a ⟨c,⟨#[]⟩,e,bV⟩:=aL (aL (aL (aL F)));have h:I (λ_=>False) d ((((W.setCell ⟨a,0,none⟩ (.string c)).setCell ⟨a,1,none⟩ (.string ⟨#[]⟩)).setCell ⟨a,2,none⟩ (.bool e)).setCell ⟨a,3,none⟩ (.int .u64 bV)):=(((z.setCell _ _ _ (.inr o)).setCell _ _ _ (.inr o)).setCell _ _ _ (.inr o)).setCell _ _ _ (.inr o);have al:=(Y P).trans h (λ_ C=>C.elim);have ac:=h.own (Y L) (λ_ _ C=>C);have n:=(h.block _ u id).trans (Y bc);have cT:a≠m:=by omega
   have bs:w.heap.size<=a:=aB (Y P).size o;have ce:(Value.slice nx k nc).ownBlock≠some a:=λcn=>by have:=((Y L).lt a cn).2;omega
   generalize((((W.setCell ⟨a,0,none⟩ (.string c)).setCell ⟨a,1,none⟩ (.string ⟨#[]⟩)).setCell ⟨a,2,none⟩ (.bool e)).setCell ⟨a,3,none⟩ (.int .u64 bV))=W5 at U al ac n|-;have d0:W5.cell? ⟨m,0,none⟩=some (.string c):=by rw[aj n];rfl
   have d1:W5.cell? ⟨m,1,none⟩=some (.string l):=by rw[aj n];rfl
   have d2:W5.cell? ⟨m,2,none⟩=some (.bool e):=by rw[aj n];rfl
   have cp:=ak n;have K:=Z U;have Q:=Z al;have N:=Z ac;clear U al ac n h bh hK z F q0 q1 q2 q3 fz bc P L r s o bq;obtain⟨g0,g1,g2,g3⟩:=(Y K).cells;simp only at g0 g1 g2 g3;have bp:=ak (Y K);cases e with
   |true=>
    go_wp2_with(at_builtin;refine aX _ rfl (.tmp 32) (.tmp 34) 101 rfl w.heap.size 177 i0 tQ 4 48 underlying101 an ax ba bb rfl (by decide) (.slice nx k nc) k (aF ((b.take k).map (kw bV))) rfl (aM (Y N) (.cells #[.string c,.string ⟨#[]⟩,.bool true,.int .u64 bV] 177)) ⟨W5.heap.size,0,none⟩ 1 1 (aF [⟨c,⟨#[]⟩,true,bV⟩]) rfl rfl (rQ _ ⟨c,⟨#[]⟩,true,bV⟩ _) (yT _) (by omega) (by omega) (by have:=(Y Q).size;simp;omega) ?_;intro v7 w7 x B;have q:=Z x;have R:=Z B;clear x B)
    obtain⟨x7,c7,ao⟩:=aC (Y q);subst ao;go_roundw;case rel=>
     refine⟨k+1,t,by go_num,?_,?_⟩
     ·rw[Y bf,eK];exact Y q
     ·exact((Y Q).alloc _).trans (I.bz (S:=λG=>(Value.slice nx k nc).ownBlock=some G) (Y R).grown (λG y=>.inl y)) (λG y=>.inr ((Y N).lt G y).1)
    case measure=>simp[intOf];omega
   |false=>
    go_wp2_with fail
    refine(bo _).mono ?_;rintro cn w6⟨rfl,bl⟩;have A:I (λ_=>False) W5 w6:=I.aR bl;have p:fX w6 a ⟨c,⟨#[]⟩,false,bV⟩:=(A.block _ bp id).trans (Y K);have bx:w.heap.size<=a:=bs;have bk:=((Y Q).trans A (λ_ C=>C.elim)).setCell a 1 (.string l) (.inr bs);have bi:=(((A.mono (T:=λG=>G=a) (λ_ C=>C.elim)).setCell a 1 (.string l) (.inl rfl))).own (Y N) (λG y C=>ce (by rw[<-C];exact y));obtain⟨h0,h1,h2,h3⟩:=p.cells;simp only at h0 h1 h2 h3;have cE:w6.frozen? ⟨a,1,none⟩=false:=by unfold fX at p;simp[World.frozen?,p]
    have cM:=ak p;have V:=Z bk;have D:=Z bi;clear p bk bi A bl g0 g1 g2 g3 d0 d1 d2;go_wp2_with(at_builtin;refine aX _ rfl (.tmp 32) (.tmp 34) 101 rfl w.heap.size 177 i0 tQ 4 48 underlying101 an ax ba bb rfl (by decide) (.slice nx k nc) k (aF ((b.take k).map (kw bV))) rfl (aM (Y D) (.cells #[.string c,.string l,.bool false,.int .u64 bV] 177)) ⟨w6.heap.size,0,none⟩ 1 1 (aF [⟨c,l,false,bV⟩]) rfl rfl (by have y:=rQ (w6.setCell ⟨a,1,none⟩ (.string l)) ⟨c,l,false,bV⟩ 177;rwa[gp]at y) (yT _) (by omega) (by omega) (by have:=(Y V).size;simp;omega) ?_;intro v7 w7 x B;have q:=Z x;have R:=Z B;clear x B)
    obtain⟨x7,c7,ao⟩:=aC (Y q);subst ao;go_roundw;case rel=>
     refine⟨k+1,t,by go_num,?_,?_⟩
     ·rw[Y bf,eK];exact Y q
     ·exact((Y V).alloc _).trans (I.bz (S:=λG=>(Value.slice nx k nc).ownBlock=some G) (Y R).grown (λG y=>.inl y)) (λG y=>.inr ((Y D).lt G y).1)
    case measure=>simp[intOf];omega
  ·have e1:¬(k:Int)<(b.length:Int):=by omega
   have a:k=b.length:=by omega
   have d:=Z (show aF (b.map (kw bV))=aF ((b.take k).map (kw bV))by rw[a,bD]);have c:=Z a;have HO:=Z ho;have HT:=Z z;clear ho z a;go_wp2;go_ret;exact⟨_,rfl,by rw[Y d,<-Y c];exact Y HO,Y HT⟩
end Go.Proofs.YtophdnlmpfmeiaaGreatDoor
