import Derived.Test.YtophdnlmpfmeiaaGreatDoorC7
import Derived.Test.YtophdnlmpfmeiaaGreatDoorC11
import Derived.Test.YtophdnlmpfmeiaaGreatDoorC16
namespace Go.Proofs.YtophdnlmpfmeiaaGreatDoor
open ChangeShapes WideShapes RowKit Proofs.Tryz
set_option maxHeartbeats 16000000
set_option linter.all false
set_option maxRecDepth 100000
def xX(w:J)(f:Nat)(a cut b e:Int)(g c bJ:Nat)(d:M)(j:List fW)(m:js w f (.pointer none) a cut b e g c bJ d j):Calls prog 157 #[.pointer (some ⟨f,0,none⟩)] w λn l=>n=.returned (.bool false)/\l=w:=by
 have h:w.cell? ⟨f,0,none⟩=some (.pointer none):=by rw[aj m.box];rfl
 clear m;go_enter func157,ntmps157
 go_wp2;go_ret;exact⟨rfl,rfl⟩
def wH(w:J)(f:Nat)(m:Addr)(a cut b e:Int)(g c bJ:Nat)(d:M)(j:List fW)(n:js w f (.pointer (some m)) a cut b e g c bJ d j):Calls prog 157 #[.pointer (some ⟨f,0,none⟩)] w λo l=>o=.returned (.bool true)/\l=w:=by
 have h:w.cell? ⟨f,0,none⟩=some (.pointer (some m)):=by rw[aj n.box];rfl
 clear n;go_enter func157,ntmps157
 go_wp2;go_ret;exact⟨rfl,rfl⟩
def zf(a cut b c:Int):M:=.agg #[.int .u64 a,.int .u32 cut,.int .u32 b,.int .u32 c]
def BH{c:Func}{p:Tmp}(m:c.results=#[.cell p 233])(a:Array M)(w:J)(g:Nat)(e f h i:Int)(t:TypeId)(d:Nat×Nat)(l:a.getD p undef=.pointer (some ⟨g,0,none⟩))(j:w.heap[g]?=some (.cells #[.int .u64 e,.int .u32 f,.int .u32 h,.int .u32 i] t d)):(results c a).run prog w=.ok (zf e f h i) w:=by
 have b:a[p]?.getD undef=.pointer (some ⟨g,0,none⟩):=by simpa using l
 have k:=jM (P:=prog) w g t 233 #[.int .u64 e,.int .u32 f,.int .u32 h,.int .u32 i] d _ j underlying233 rfl (by kernel_rfl);simp[results,m,b,asAddr,k,zf]
def Lr(w:J)(d:Nat)(i:M)(a cut b c:Int)(g e bJ:Nat)(f:M)(o:List fW)(h:js w d i a cut b c g e bJ f o):Calls prog 202 #[.pointer (some ⟨d,0,none⟩)] w λq p=>q=.returned (zf a cut b c)/\Below w.heap.size w p:=by
 have j:w.cell? ⟨d,1,none⟩=some (.int .u64 a):=by rw[aj h.box];rfl
 have k:w.cell? ⟨d,2,none⟩=some (.int .u32 cut):=by rw[aj h.box];rfl
 have l:w.cell? ⟨d,3,none⟩=some (.int .u32 b):=by rw[aj h.box];rfl
 have m:w.cell? ⟨d,4,none⟩=some (.int .u32 c):=by rw[aj h.box];rfl
 have n:=ak h.box;clear h;go_enter func202,ntmps202
 go_wp2;refine bO (BH rfl _ _ w.heap.size a cut b c _ _ rfl (az _ rfl)) rfl ?_;exact⟨rfl,(Below.refl _ w).alloc (ai _) _⟩
def wN(w:J)(f:Nat)(k:M)(u:Nat)(c:u<18446744073709551616)(cut a e:Int)(j b bJ:Nat)(d:M)(n:List fW)(r:js w f k u cut a e j b bJ d n)(h:Pow w):Calls prog 133 #[.pointer (some ⟨f,0,none⟩)] w λq o=>q=.returned (.string (eM u))/\Below w.heap.size w o:=by
 have l:w.cell? ⟨f,1,none⟩=some (.int .u64 u):=by rw[aj r.box];rfl
 have m:=vP u c w h;clear r h;go_enter func133,ntmps133
 go_wp2_with(go_at_call 182;refine m.mono ?_;rintro q s⟨rfl,g⟩;have i:=Z g;clear g)
 go_ret;exact⟨rfl,Y i⟩
def JX(w:J)(j:Nat)(b cut e i:Int)(r f bJ m d vB eL:Nat)(u:List fW)(k:fW)(q:js w j (.pointer none) b cut e i r f bJ (.slice (some ⟨m,d,none⟩) vB eL) u)(y:k.pos+k.size<=vB)(L:vB<=eL)(z:0<k.size)(N:vB<=1000000000000):Calls prog 296 #[.pointer (some ⟨j,0,none⟩),k.value] w λE D=>E=.returned (.tuple #[.slice (some ⟨m,d+k.pos,none⟩) k.size (eL-k.pos:Nat),.nilIface])/\Below w.heap.size w D:=by
 obtain⟨pos,a,c,first,g⟩:=k;simp only at y z;unfold fW.value;simp only;have o:=ak q.box;have h:Below w.heap.size w (w.alloc (.cells #[.int .i64 pos,.int .i64 a,.int .i64 c,.string first,.string g] 316)):=(Below.refl _ w).alloc (ai _) _;have p:=xX _ j b cut e i r f bJ _ u (q.below h q.lt.1 q.lt.2);have B:(w.alloc (.cells #[.int .i64 pos,.int .i64 a,.int .i64 c,.string first,.string g] 316)).cell? ⟨j,6,none⟩=some (.slice (some ⟨m,d,none⟩) vB eL):=by rw[lR _ _ _ o,aj q.box];rfl
 have t:∀(x:Bool)(w:J),(Op.unary .not (.bool x)).run prog w=.ok (.bool (!x)) w:=λ_ _=>rfl;obtain⟨s,C⟩:∃s,pos+a=s:=⟨_,rfl⟩;have F:(pos:Int)+(a:Int)=(s:Int):=by omega
 have G:IntKind.i64.wrap (s:Int)=(s:Int):=by rw[bu];omega
 have H:pos<s:=by omega
 have K:s<=vB:=by omega
 have l:=Z (show a=s-pos by omega);have v:=Z h;clear q h C;go_enter func296,ntmps296
 go_wp2_with(go_at_call 157;refine p.mono ?_;rintro E O⟨rfl,rfl⟩)
 go_quiet(fail)
 go_wp2;go_ret2
 have x:=Y l;have A:=Y v;subst x;exact⟨rfl,below_drewN A _⟩
def I.of_heap{S:Nat->Prop}{a b c:J}(h:I S a b)(q:(c.os,c.tape,c.output,c.heap)=(b.os,b.tape,b.output,b.heap)):I S a c:=by
 obtain⟨e,g,o,d⟩:c.os=b.os/\c.tape=b.tape/\c.output=b.output/\c.heap=b.heap:=by simpa using q
 exact⟨e.trans h.os,g.trans h.tape,o.trans h.output,by rw[d];exact h.size,λk b q=>by rw[d];exact h.block k b q⟩
def bS(S:Nat->Prop)(w:J):I S w w.drew:=⟨rfl,rfl,rfl,ai _,λ_ _ _=>rfl⟩
def ft(S:Nat->Prop)(w:J)(q:Nat):I S w (w.drewN q):=⟨rfl,rfl,rfl,ai _,λ_ _ _=>rfl⟩
def bR.Ll{w:J}{d:Nat}{K:DK}(h:bR w d K){r:Nat}{g:Array M}{t:TypeId}{i:Nat×Nat}(a:w.heap[r]?=some (.cells g t i))(k:t≠73)(l:t≠228)(m:t≠281)(n:t≠122)(o:t≠5):¬K.aS d r:=by
 rintro(rfl|rfl|rfl|e|⟨x,q,e⟩|⟨s,f,rfl|e⟩)
 ·exact fj a h.fN k rfl
 ·exact h.now.tag a rfl
 ·exact h.safe.tag a rfl
 ·obtain⟨b,c⟩:=dS h.steps e;exact fj a c l rfl
 ·obtain⟨b,j,c⟩:=(h.each x q).2.2 r e;exact fj a c m rfl
 ·exact fj a (h.files s f).1 n rfl
 ·obtain⟨b,c⟩:=dS (h.files s f).2.1 e;exact fj a c o rfl
def GN(w:J)(m b ac:Nat)(Q:ac<18446744073709551616)(cut h D:Int)(bb o bJ:Nat)(F:M)(ks:List fW)(x:fW)(K:DK)(ad:bY)(bc:js w m (.pointer (some ⟨b,0,none⟩)) ac cut h D bb o bJ F ks)(X:bR w b K)(hg:kI K.files (eM ac)=some ad)(hl:ad.bytes.length<=1099511627776)(h1:x.pos+x.size<=ad.bytes.length)(h3:0<x.size)(hp:Pow w):Calls prog 296 #[.pointer (some ⟨m,0,none⟩),x.value] w λV k=>∃U f c,V=.returned (.tuple #[.slice (some ⟨U,f,none⟩) x.size c,.nilIface])/\x.size<=c/\Bytes k (.slice (some ⟨U,f,none⟩) x.size c) ((ad.bytes.drop x.pos).take x.size)/\I (K.aS b) w k/\∃n,bR k b n/\n.files=K.files/\n.cY=K.cY/\∀x,n.aS b x->K.aS b x:=by
 obtain⟨pos,a,d,first,j⟩:=x;simp only at h1 h3;unfold fW.value;simp only;have bg:=ak bc.box;have l:Below w.heap.size w (w.alloc (.cells #[.int .i64 pos,.int .i64 a,.int .i64 d,.string first,.string j] 316)):=(Below.refl _ w).alloc (ai _) _;have e:=bc.below l bc.lt.1 bc.lt.2;have R:=wH _ m ⟨b,0,none⟩ ac cut h D bb o bJ _ ks e;have bd:∀(bf:Bool)(w:J),(Op.unary .not (.bool bf)).run prog w=.ok (.bool (!bf)) w:=λ_ _=>rfl;have B:(w.alloc (.cells #[.int .i64 pos,.int .i64 a,.int .i64 d,.string first,.string j] 316)).cell? ⟨m,0,none⟩=some (.pointer (some ⟨b,0,none⟩)):=by rw[aj e.box];rfl
 obtain⟨g,q⟩:∃g,g=w.alloc (.cells #[.int .i64 pos,.int .i64 a,.int .i64 d,.string first,.string j] 316):=⟨_,rfl⟩;have z:wG g w.heap.size ⟨pos,a,d,first,j⟩:=by rw[q];exact az _ rfl
 have ba:g.heap.size=w.heap.size+1:=by rw[q];simp
 have u:m<g.heap.size:=by omega
 rw[<-q]at l e R B;have L:g.cell? ⟨w.heap.size,0,none⟩=some (.int .i64 pos):=z.cells.1;have N:g.cell? ⟨w.heap.size,1,none⟩=some (.int .i64 a):=z.cells.2.1;have H:Pow g:=hp.ay (S:=λ_=>False) (I.aR l) (λy=>y);have G:bR g b K:=X.ay (S:=λ_=>False) (I.aR l) (λ_ _ y=>y);have HN:=Z (show∀W,W.heap=g.heap->Calls prog 133 #[.pointer (some ⟨m,0,none⟩)] W λV k=>V=.returned (.string (eM ac))/\Below W.heap.size W k fromλW E=>wN W m (.pointer (some ⟨b,0,none⟩)) ac Q cut h D bb o bJ F ks ⟨by rw[E];exact e.box,λj bf a=>by rw[bI (w:=g) (by rw[E])];exact e.cells j bf a,e.ne,e.le,e.small⟩ (H.dh (by rw[E])));have P:¬K.aS b m:=X.Ll bc.box (by decide) (by decide) (by decide) (by decide) (by decide);have C:¬K.aS b w.heap.size:=λy=>by have:=X.lt _ y;omega
 have HR:=Z (show∀W,Below g.drew.heap.size g.drew W->Calls prog 127 #[.pointer (some ⟨b,0,none⟩),.string (eM ac),.int .i64 pos,.int .i64 a] W λV k=>∃U f c,V=.returned (.tuple #[.slice (some ⟨U,f,none⟩) a c,.nilIface])/\(k.cell? ⟨m,0,none⟩=some (.pointer (some ⟨b,0,none⟩))/\k.cell? ⟨w.heap.size,0,none⟩=some (.int .i64 pos)/\k.cell? ⟨w.heap.size,1,none⟩=some (.int .i64 a))/\(a<=c/\Bytes k (.slice (some ⟨U,f,none⟩) a c) ((ad.bytes.drop pos).take a)/\I (K.aS b) w k/\∃n,bR k b n/\n.files=K.files/\n.cY=K.cY/\∀x,n.aS b x->K.aS b x)fromλW ao=>by
  have E:I (λ_=>False) g W:=(bS _ g).trans (I.aR (S:=λ_=>False) ao) (λ_ y=>y.elim);have an:=G.ay E (λ_ _ y=>y);refine(vW b K (eM ac) ad pos a W an hg hl (by omega) (by omega)).mono ?_;rintro V k⟨v',rfl,ho,n,t,e1,e2,e3⟩;have i:((ad.bytes.drop pos).take a).length=a:=by simp;omega
  have A:=ho.bytes;have s:I (K.aS b) g k:=(E.mono (T:=K.aS b) (λ_ y=>y.elim)).trans t.ay (λ_ y=>.inl y);rcases A.shape with⟨_,h0⟩|⟨U,f,c,rfl,O⟩
  ·rw[h0]at i;simp at i;omega
  ·rw[i]at O A;exact⟨U,f,c,by rw[i],⟨s.cell B P u,s.cell L C (by omega),s.cell N C (by omega)⟩,O,A,(I.aR (S:=K.aS b) l).trans s (λ_ y=>.inl y),n,t.ok,e1,e2,e3⟩)
 have HW:=Z q;have v:w.heap.size<g.heap.size:=by omega
 clear bc l X hg hl h1 hp e H G z ba q P C;go_enter func296,ntmps296
 go_wp2_with(go_at_call 157;rw[<-(Y HW)];refine R.mono ?_;rintro V w1⟨rfl,ax⟩;subst ax)
 go_region_held3(λX=>X.cell? ⟨m,0,none⟩=some (.pointer (some ⟨b,0,none⟩))/\X.cell? ⟨w.heap.size,0,none⟩=some (.int .i64 pos)/\X.cell? ⟨w.heap.size,1,none⟩=some (.int .i64 a)) (first|assumption|go_keep) (first
  |(go_at_call 133;go_loud(refine((Y HN) w1.drew rfl).mono ?_;rintro V w2⟨rfl,r⟩;have bh:w2.cell? ⟨m,0,none⟩=some (.pointer (some ⟨b,0,none⟩))/\w2.cell? ⟨w.heap.size,0,none⟩=some (.int .i64 pos)/\w2.cell? ⟨w.heap.size,1,none⟩=some (.int .i64 a):=⟨(r.cell (p:=⟨m,0,none⟩) u).trans (by rw[aQ];exact B),(r.cell (p:=⟨w.heap.size,0,none⟩) v).trans (by rw[aQ];exact L),(r.cell (p:=⟨w.heap.size,1,none⟩) v).trans (by rw[aQ];exact N)⟩;have al:=Z r;clear r))
  |(go_at_call 127;go_loud(refine((Y HR) w2 (Y al)).mono ?_;rintro V w3⟨U,f,c,rfl,bi,r1⟩;have R1:=Z r1;clear r1)))
 go_wp2;go_ret2
 exact⟨U,f,c,rfl,Y R1⟩
def cC(a:List (List E)):List Int:=(a.map (λc=>fS (eU c))).flatten
def eF(a:List Int):(fS a).length=a.length+4:=by simp[fS,bw]
def nh(c:List E)(a:List (List E)):cC (c::a)=fS (eU c)++cC a:=by simp[cC]
def Cm(b a:List (List E)):cC (b++a)=cC b++cC a:=by simp[cC]
def xy(a:List (List E))(i:Nat)(h:i<a.length):cC a=cC (a.take i)++(fS (eU a[i])++cC (a.drop (i+1))):=by
 conv=>lhs;rw[<-bF i a,bm h]
 rw[Cm,nh]
def zG(a:List (List E))(b:List Int)(i:Nat)(h:i<a.length):((cC a++b).drop (cC (a.take i)).length).take ((eU a[i]).length+4)=fS (eU a[i]):=by
 rw[xy a i h,aV,kg,aV,<-eF,lX]
def Cl(a:List (List E))(i:Nat)(h:i<a.length):(cC (a.take i)).length+((eU a[i]).length+4)<=(cC a).length:=by
 rw[xy a i h];simp[eF]
structure pF(ks:List fW)(cs:List (List E)):Prop where
 len:ks.length=cs.length
 ne:0<cs.length
 yU:∀i(hi:i<ks.length)(hc:i<cs.length),ks[i].Of cs[i]
 pos:∀i(hi:i<ks.length),ks[i].pos=(cC (cs.take i)).length
 gU:∀c∈cs,∀x∈c,x.Good
 li:fG cs.flatten
 small:∀c∈cs,c.length<=1000
def Bytes.same{V:gz}{n0:Nat}{S:Nat->Prop}{w w':J}{v:M}{bs:List Int}(e:Bytes w v bs)(hs:ia V n0 S w w')(g:∀k,v.ownBlock=some k->k<n0/\¬V.F k):Bytes w' v bs:=by
 rcases e with⟨rfl,rfl⟩|⟨h,c,a,rfl,b,d⟩
 ·exact .inl ⟨rfl,rfl⟩
 ·exact .inr ⟨h,c,a,rfl,b,λk e=>hs.cell (.inr (g h rfl)) (d k e)⟩
def kA.OL(V:gz)(o q:Nat)(d cut f p:Int)(s h bJ i a eL:Nat)(g:List fW)(c:List (List E))(H:J)(C:js H q (.pointer none) d cut f p s h bJ (.slice (some ⟨i,a,none⟩) (cC c).length eL) g)(k:pF g c)(N:Bytes H (.slice (some ⟨i,a,none⟩) (cC c).length eL) (cC c))(v:(cC c).length<=eL)(x:(cC c).length<=1000000000000)(z:q<o/\¬V.F q)(A:s<o/\¬V.F s)(K:i<o/\¬V.F i)(y:Steps H)(w:1<o/\¬V.F 1):kA V o q g c H where
 mem:=⟨_,_,_,_,_,_,_,_,_,C,z,A⟩
 len:=k.len
 yU:=k.yU
 gU:=k.gU
 li:=k.li
 small:=k.small
 steps:=y
 uL:=w
 bytes:=by
  intro r B t W D L;have G:=k.yU r B t;have b:=k.pos r B;have j:=Cl c r t;refine(JX W q d cut f p s h bJ i a (cC c).length eL g g[r] (C.same D z A) (by rw[b,G.size];exact j) v (by rw[G.size];omega) x).mono ?_;rintro Q R⟨rfl,e⟩;refine⟨i,a+g[r].pos,eL-g[r].pos,rfl,by rw[b,G.size];omega,?_,V.dF L (I.aR (S:=λ_=>False) e) (λ_ T=>T.elim),I.aR e⟩;have l:Bytes W (.slice (some ⟨i,a,none⟩) (cC c).length eL) (cC c):=N.same D (λU u=>by cases u;exact K);have O:=l.uv (n:=g[r].pos) (by rw[b];omega);have F:=Bytes.take (bs:=(cC c).drop g[r].pos) (n:=g[r].size) (by simpa using O) (by simp;rw[b,G.size];omega);have m:=zG c [] r t;rw[cN,<-b,<-G.size]at m;rw[m]at F;refine F.below e (λU u=>?_);cases u;have P:=l.lt (bs:=cC c) (by intro Q;rw[Q]at j;simp at j) i rfl;exact P
def vC(c:Nat)(f:List bY)(cY:List (M×List Mv))(F:Nat->Prop):gz where
 D W:=(∀k,F k->k<W.heap.size)/\∃K,bR W c K/\K.files=f/\K.cY=cY/\∀k,K.aS c k->F k
 F:=F
 dF:=by
  rintro w l S⟨b,K,g,h,i,d⟩e j;exact⟨λk a=>ah (b k a) e.size,K,g.ay e (λk a c=>j k c (d k a)),h,i,d⟩
 lt:=by
  rintro w k⟨b,_⟩a;exact b k a
def kA.He(q:Nat)(G:List bY)(cY:List (M×List Mv))(F:Nat->Prop)(l n T:Nat)(hu:T<18446744073709551616)(cut a m:Int)(o b bJ:Nat)(g:M)(k:List fW)(f:List (List E))(S:bY)(d:List Int)(U:J)(O:js U n (.pointer (some ⟨q,0,none⟩)) T cut a m o b bJ g k)(e:pF k f)(hf:kI G (eM T)=some S)(i:S.bytes=cC f++d)(t:S.bytes.length<=1099511627776)(H:n<l/\¬F n)(K:o<l/\¬F o)(z:Steps U)(y:1<l/\¬F 1)(x:Pow U)(w:3<l/\¬F 3):kA (vC q G cY F) l n k f U where
 mem:=⟨_,_,_,_,_,_,_,_,_,O,H,K⟩
 len:=e.len
 yU:=e.yU
 gU:=e.gU
 li:=e.li
 small:=e.small
 steps:=z
 uL:=y
 bytes:=by
  rintro R N s an P⟨v,al,hK,C,W,D⟩;have ad:=e.yU R N s;have c:=e.pos R N;have ac:=Cl f R s;refine(GN an n q T hu cut a m o b bJ g k k[R] al S (O.same P H K) hK (by rw[C];exact hf) t (by rw[c,ad.size,i,ag];omega) (by rw[ad.size];omega) (x.dh (P.2 _ (.inl w)))).mono ?_;rintro ax W'⟨ao,A,p,rfl,u,L,Q,V,r,X,f2,f3⟩;refine⟨ao,A,p,rfl,u,?_,⟨λB j=>ah (v B j) Q.size,V,r,X.trans C,f2.trans W,λB j=>D B (f3 B j)⟩,Q.mono (λB j=>.inl (D B j))⟩;have h:=zG f d R s;rw[<-c,<-ad.size,<-i]at h;rw[h]at L;exact L
def Jo:(prog.info? 316).map (λi=>(i.zero,i.size,i.bytes))=some (some (.agg #[.int .i64 0,.int .i64 0,.int .i64 0,.string ⟨#[]⟩,.string ⟨#[]⟩]),5,56):=by kernel_rfl
def GL(w:J)(x y z u v:M)(t:TypeId):∀j q,[x,y,z,u,v][j]?=some q->(w.alloc (.cells #[x,y,z,u,v] t)).cell? ((⟨w.heap.size,0,none⟩:Addr).add j)=some q:=by
 intro j q a;rw[ct];unfold World.cell?;rw[ew];simpa using a
def I.dU{w a:J}{v b:M}(h:du w a v b):I (λk=>v.ownBlock=some k) w a:=I.bz h.grown (λ_ e=>.inl e)
def dY.ay{w w':J}{b:Nat}{v:M}{t:TypeId}{S:Nat->Prop}(h:dY w b v t)(d:I S w w')(a:¬S b):dY w' b v t:=(d.block b (ak h) a).trans h
def Ku(w:J)(b i:Nat)(u:M):I (λk=>k=b) w (w.setCell ⟨b,i,none⟩ u):=(I.refl (λk=>k=b) w).setCell b i u (.inl rfl)
structure kJ(W:J)(base bl bd bp bk bf:Nat)(lv dv pv kv:M)(fr:Nat)(ds ps:List Int)(ks:List fW):Prop where
 l:dY W bl lv 102
 d:dY W bd dv 119
 p:dY W bp pv 119
 k:dY W bk kv 261
 f:dY W bf (.int .i64 fr) 3
 od:dq W base dv ds
 op:dq W base pv ps
 ok:W.ownsRow base 316 5 kv ks.length (cO ks)
 ne:∀x,dv.ownBlock=some x->pv.ownBlock≠some x
 ord:bl<bd/\bd<bp/\bp<bk/\bk<bf/\bf<base
 size:base<=W.heap.size
def zL(a:List fW)(k:fW):cO (a++[k])=cO a++k.cells:=by simp[cO]
def kJ.iX{W:J}{base g d h bk f:Nat}{n a c b:M}{k:Nat}{j o:List Int}{m:List fW}(l:kJ W base g d h bk f n a c b k j o m){x:Nat}(p:x<base):¬(a.ownBlock=some x)/\¬(c.ownBlock=some x)/\¬(b.ownBlock=some x):=⟨λe=>by have:=(l.od.lt x e).1;omega,λe=>by have:=(l.op.lt x e).1;omega,λe=>by have:=(aK l.ok x e).1;omega⟩
def kG{w:J}{base e a n c i:Nat}{v u:M}{b:List M}(h:w.ownsRow base e a v n b)(f:c<base):(w.setCell ⟨c,i,none⟩ u).ownsRow base e a v n b:=(Ku w c i u).own h (λk d g=>by have:=(aK h k d).1;omega)
def kJ.kd{W:J}{base l j m bk k:Nat}{s e g d:M}{q:Nat}{n t:List Int}{r:List fW}(h:kJ W base l j m bk k s e g d q n t r):(∀x,d.ownBlock=some x->e.ownBlock≠some x)/\(∀x,d.ownBlock=some x->g.ownBlock≠some x):=by
 constructor
 ·intro x o a;obtain⟨c1,b⟩:=dS h.ok o;obtain⟨c2,c⟩:=dS h.od a;exact fj b c (by decide) rfl
 ·intro x o a;obtain⟨c1,b⟩:=dS h.ok o;obtain⟨c2,c⟩:=dS h.op a;exact fj b c (by decide) rfl
def kJ.piece{W g:J}{base m k d bk l:Nat}{t o f s a:M}{p:Nat}{n z c:List Int}{r:List fW}(h:kJ W base m k d bk l t o f s p n z r)(b:I (λq=>f.ownBlock=some q) W g)(y:a.ownBlock=f.ownBlock\/∃w,a.ownBlock=some w/\W.heap.size<=w)(x:dq g base a c):kJ (g.setCell ⟨d,0,none⟩ a) base m k d bk l t o a s p n c r:=by
 have B:=h.ord;refine⟨(h.l.ay b (h.iX (by omega)).2.1).other _ (by omega),(h.d.ay b (h.iX (by omega)).2.1).other _ (by omega),(h.p.ay b (h.iX (by omega)).2.1).set _,(h.k.ay b (h.iX (by omega)).2.1).other _ (by omega),(h.f.ay b (h.iX (by omega)).2.1).other _ (by omega),kG (b.own h.od (λq j=>h.ne q j)) (by omega),kG x (by omega),kG (b.own h.ok (λq j=>h.kd.2 q j)) (by omega),λC j e=>?_,B,by rw[gp];exact aB h.size b.size⟩;rcases y with u|⟨w,u,A⟩
 ·exact h.ne C j (u▸e)
 ·rw[u]at e;cases e;have:=(h.od.lt _ j).2;omega
def kJ.blocks{W d:J}{base g e j bk f:Nat}{p l r o b:M}{m:Nat}{k q:List Int}{u ks1:List fW}(h:kJ W base g e j bk f p l r o m k q u)(a:I (λn=>o.ownBlock=some n) W d)(t:d.ownsRow base 316 5 b ks1.length (cO ks1)):kJ (d.setCell ⟨bk,0,none⟩ b) base g e j bk f p l r b m k q ks1:=by
 have w:=h.ord;exact⟨(h.l.ay a (h.iX (by omega)).2.2).other _ (by omega),(h.d.ay a (h.iX (by omega)).2.2).other _ (by omega),(h.p.ay a (h.iX (by omega)).2.2).other _ (by omega),(h.k.ay a (h.iX (by omega)).2.2).set _,(h.f.ay a (h.iX (by omega)).2.2).other _ (by omega),kG (a.own h.od (λn s c=>h.kd.1 n c s)) (by omega),kG (a.own h.op (λn s c=>h.kd.2 n c s)) (by omega),kG t (by omega),h.ne,w,by rw[gp];exact aB h.size a.size⟩
def kJ.data{W j:J}{base m d o bk l:Nat}{s e u r a:M}{p:Nat}{y ds1 t:List Int}{q:List fW}(h:kJ W base m d o bk l s e u r p y t q)(b:I (λk=>e.ownBlock=some k) W j)(B:a.ownBlock=e.ownBlock\/∃z,a.ownBlock=some z/\W.heap.size<=z)(A:dq j base a ds1):kJ (j.setCell ⟨d,0,none⟩ a) base m d o bk l s a u r p ds1 t q:=by
 have D:=h.ord;refine⟨(h.l.ay b (h.iX (by omega)).1).other _ (by omega),(h.d.ay b (h.iX (by omega)).1).set _,(h.p.ay b (h.iX (by omega)).1).other _ (by omega),(h.k.ay b (h.iX (by omega)).1).other _ (by omega),(h.f.ay b (h.iX (by omega)).1).other _ (by omega),kG A (by omega),kG (b.own h.op (λk g c=>h.ne k c g)) (by omega),kG (b.own h.ok (λk g=>h.kd.1 k g)) (by omega),λE g c=>?_,D,by rw[gp];exact aB h.size b.size⟩;rcases B with x|⟨z,x,C⟩
 ·exact h.ne E (x▸g) c
 ·rw[x]at g;cases g;have:=(h.op.lt _ c).2;omega
def kJ.fin{W:J}{base d c b bk a:Nat}{k f p j:M}{m l:Nat}{e o:List Int}{g:List fW}(h:kJ W base d c b bk a k f p j m e o g):kJ ((W.setCell ⟨b,0,none⟩ (.slice none 0 0)).setCell ⟨a,0,none⟩ (.int .i64 l)) base d c b bk a k f (.slice none 0 0) j l e [] g:=by
 have r:=h.ord;exact⟨(h.l.other _ (by omega)).other _ (by omega),(h.d.other _ (by omega)).other _ (by omega),(h.p.set _).other _ (by omega),(h.k.other _ (by omega)).other _ (by omega),(h.f.other _ (by omega)).set _,kG (kG h.od (by omega)) (by omega),dq.nil _ _,kG (kG h.ok (by omega)) (by omega),(λx _ q=>by cases q),r,by rw[gp,gp];exact h.size⟩
def xP(a base:Nat)(b d c:M)(x:Nat):Prop:=(a<=x/\x<base)\/b.ownBlock=some x\/d.ownBlock=some x\/c.ownBlock=some x
def kJ.low{W:J}{base a f n bk g:Nat}{s b e d:M}{p:Nat}{o y:List Int}{r:List fW}(h:kJ W base a f n bk g s b e d p o y r):∀x,xP a base b e d x->a<=x:=by
 have z:=h.ord;rintro x(⟨c,_⟩|c|c|c)
 ·exact c
 ·have:=(h.od.lt x c).1;omega
 ·have:=(h.op.lt x c).1;omega
 ·have:=(aK h.ok x c).1;omega
def kJ.ay{W w':J}{base g d o bk e:Nat}{B y D A:M}{z:Nat}{r C:List Int}{ks:List fW}(h:kJ W base g d o bk e B y D A z r C ks)(a:I (λ_=>False) W w'):kJ w' base g d o bk e B y D A z r C ks:=⟨h.l.ay a id,h.d.ay a id,h.p.ay a id,h.k.ay a id,h.f.ay a id,a.own h.od (λ_ _ c=>c),a.own h.op (λ_ _ c=>c),a.own h.ok (λ_ _ c=>c),h.ne,h.ord,aB h.size a.size⟩
def I.low{S:Nat->Prop}{w w':J}{B k i:Nat}{u:M}(h:I S w w')(b:∀x,S x->B<=x)(d:k<B)(a:w.cell? ⟨k,i,none⟩=some u):w'.cell? ⟨k,i,none⟩=some u:=h.cell a (λc=>by have:=b k c;omega) (cI w ⟨k,i,none⟩ a)
def ix{P:Program}{B:Oper}{A:Act}{w:J}{ac:Act->J->Prop}{an:Exit->Act->J->Prop}(ad al:Operand)(C:TypeId)(s:B.op=Op.call {callee:=Callee.builtin Builtin.append,args:=#[ad,al],argTypes:=#[C,C]})(base:Nat)(z:TypeId)(i:TypeInfo)(X:M)(a bytes:Nat)(R:P.underlying C=some (.slice z))(K:P.info? z=some i)(W:i.zero=some X)(g:i.size=a)(r:i.bytes=bytes)(x:X.cells.size=a)(t:0<a)(v:M)(n:Nat)(y:List M)(Q:A.eval ad=v)(h:w.ownsRow base z a v n y)(q:Addr)(m c:Nat)(b:List M)(U:A.eval al=.slice (some q) m c)(N:b.length=m*a)(f:∀j u,b[j]?=some u->w.cell? (q.add j)=some u)(D:∀u∈b,u.oneCell'=true)(hn:n+m<=140737488355328)(d:(n+m)*bytes<=140737488355328)(e:base<=w.heap.size)(H:∀o p,p.ownsRow base z a o (n+m) (y++b)->du w p v o->ac (A.put B.dst o) p):Oper.wp P B A w ac an:=by
 obtain⟨o,p,O,E,F,_,G⟩:=lP (P:=P) w base C B.type z i X a bytes R K W g r x t v n y h q m c b N f D (by unfold maxLen;omega) d e;unfold Oper.wp;simp[execOp,s,resolve,invoke,builtin,Q,U,O,Result.andThen];exact H o p E (du.of F G)
def py{w:J}{q b n f:Nat}{d:List Int}(h:Bytes w (.slice (some ⟨q,b,none⟩) n f) d):∀j u,(d.map (Value.int .u8))[j]?=some u->w.cell? ((⟨q,b,none⟩:Addr).add j)=some u:=by
 intro j u e;rw[ct];rcases h with⟨h,_⟩|⟨r,o,g,h,_,p⟩
 ·cases h
 ·cases h;have a:j<d.length:=by
   rcases cJ j d.length with c|c
   ·exact c
   ·rw[ci (by simpa using c)]at e;cases e
  have m:=p j a;rw[cP,aA a]at e;rw[aA a]at m;cases e;exact m
def NE(bb:J)(base s k h bk t N b o ax:Nat)(dv U kv:M)(l V G:Nat)(e c:List Int)(g:List fW)(D E:aa)(ba:kJ bb base s k h bk t (.slice (some ⟨N,b,none⟩) ax o) dv U kv l e c g)(hT:Steps bb)(hg:N<s)(c0:bb.cell? ⟨N,b+l*4,none⟩=some (.string D))(c1:bb.cell? ⟨N,b+G*4,none⟩=some (.string E))(ec:l<ax)(ei:G<ax)(cv:V=G+1)(ed:l<=G)(hL:ax<=1000000000)(eb:e.length<=100000000000)(eg:c.length<=100000)(ee:g.length<=1000000000):Calls prog 193 #[.int .i64 V,.pointer (some ⟨h,0,none⟩),.pointer (some ⟨bk,0,none⟩),.pointer (some ⟨k,0,none⟩),.pointer (some ⟨t,0,none⟩),.pointer (some ⟨s,0,none⟩)] bb λej w'=>
 ej=.returned (.tuple #[])/\(∃a d,kJ w' base s k h bk t (.slice (some ⟨N,b,none⟩) ax o) a (.slice none 0 0) d V (e++fS c) [] (g++[⟨e.length,c.length+4,V-l,D,E⟩]))/\I (xP s base dv U kv) bb w':=by
 obtain⟨i0,cl,cM,cT,db⟩:=bK Jo
 obtain⟨j0,cm,cx,cB,cE⟩:=bK mr
 have dn:=ba.ord
 have cs:=ba.size
 have bq:=yG base U c bb hT ba.op cs (by omega)
 obtain⟨A,z,cj⟩:=aC ba.od
 obtain⟨F,C,cp⟩:=aC ba.ok
 subst cj
 subst cp
 have q1:=ba.p.cell
 have q2:=ba.p.free
 have p:=ba.low
 have bd:=Z c0
 have bf:=Z c1
 obtain⟨JS,an⟩:∃JS,V-l=JS:=⟨_,rfl⟩
 rw[an]
 have e1:(V:Int)-(l:Int)=(JS:Int):=by omega
 have e2:(V:Int)-1=(G:Int):=by omega
 have e3:IntKind.i64.wrap (JS:Int)=(JS:Int):=by rw[bu];omega
 have e4:IntKind.i64.wrap (G:Int)=(G:Int):=by rw[bu];omega
 have e5:(l:Int)<(ax:Int):=by omega
 have e6:(G:Int)<(ax:Int):=by omega
 have cd:=Z (show∀m W,dq W base m (c++le 4 (jv c))->du bb W U m->∃K d L,m=.slice (some ⟨K,d,none⟩) (c.length+4) L/\(W.cell? ⟨h,0,none⟩=some U/\W.frozen? ⟨h,0,none⟩=false)/\kJ (W.setCell ⟨h,0,none⟩ m) base s k h bk t (.slice (some ⟨N,b,none⟩) ax o) (.slice A e.length z) m (.slice F g.length C) l e (c++le 4 (jv c)) g/\I (xP s base (.slice A e.length z) U (.slice F g.length C)) bb (W.setCell ⟨h,0,none⟩ m)from by
  intro m W O w;have r:(c++le 4 (jv c)).length=c.length+4:=by simp[bw]
  have u:=ba.p.ay (I.dU w) (ba.iX (by omega)).2.1;have a:=ba.piece (I.dU w) w.sr O;have q:=((I.dU w).mono (T:=xP s base (.slice A e.length z) U (.slice F g.length C)) (λbx S=>.inl (.inr (.inr (.inl S))))).setCell h 0 m (.inl (.inl ⟨by omega,by omega⟩));rcases O.bytes.shape with⟨_,h0⟩|⟨K,d,L,h0,h1⟩
  ·rw[h0]at r;simp at r
  ·rw[r]at h0;exact⟨K,d,L,h0,⟨u.cell,u.free⟩,a,q⟩)
 clear ba hT c0 c1 cv an
 go_enter func193,ntmps193
 go_wp2_with(go_at_call 172;refine bq.mono ?_;rintro ej W⟨m,rfl,O,w⟩;obtain⟨K,d,L,rfl,⟨ch,ck⟩,a,q⟩:=(Y cd) m W O w;have bi:=Z a;have bh:=Z q;clear a q O w)
 have a:=Y bi
 have q:=Y bh
 clear bi bh ch ck
 generalize W.setCell ⟨h,0,none⟩ (.slice (some ⟨K,d,none⟩) (c.length+4) L)=n at*
 clear bq q1 q2
 have k0:n.cell? ⟨N,b+l*4,none⟩=some (.string D):=q.low p hg (Y bd)
 have k1:n.cell? ⟨N,b+G*4,none⟩=some (.string E):=q.low p hg (Y bf)
 have l1:=a.l.cell
 have l2:=a.d.cell
 have l3:=a.p.cell
 have l4:=a.k.cell
 have l5:=a.f.cell
 have bl:=Z (show∀(bc:Obj)x j,j.ownsRow base 316 5 x (g.length+1) (cO g++[.int .i64 e.length,.int .i64 ((c.length:Int)+4),.int .i64 JS,.string D,.string E])->du (n.alloc bc).drew j (.slice F g.length C) x->kJ (j.setCell ⟨bk,0,none⟩ x) base s k h bk t (.slice (some ⟨N,b,none⟩) ax o) (.slice A e.length z) (.slice (some ⟨K,d,none⟩) (c.length+4) L) x l e (c++le 4 (jv c)) (g++[⟨e.length,c.length+4,JS,D,E⟩])/\I (xP s base (.slice A e.length z) U (.slice F g.length C)) bb (j.setCell ⟨bk,0,none⟩ x)/\(j.cell? ⟨N,b+l*4,none⟩=some (.string D)/\j.cell? ⟨N,b+G*4,none⟩=some (.string E)/\j.cell? ⟨s,0,none⟩=some (.slice (some ⟨N,b,none⟩) ax o)/\j.cell? ⟨k,0,none⟩=some (.slice A e.length z)/\j.cell? ⟨h,0,none⟩=some (.slice (some ⟨K,d,none⟩) (c.length+4:Nat) L)/\j.cell? ⟨t,0,none⟩=some (.int .i64 l))/\j.cell? ⟨bk,0,none⟩=some (.slice F g.length C)/\((j.setCell ⟨bk,0,none⟩ x).cell? ⟨N,b+l*4,none⟩=some (.string D)/\(j.setCell ⟨bk,0,none⟩ x).cell? ⟨N,b+G*4,none⟩=some (.string E)/\(j.setCell ⟨bk,0,none⟩ x).cell? ⟨s,0,none⟩=some (.slice (some ⟨N,b,none⟩) ax o)/\(j.setCell ⟨bk,0,none⟩ x).cell? ⟨k,0,none⟩=some (.slice A e.length z)/\(j.setCell ⟨bk,0,none⟩ x).cell? ⟨h,0,none⟩=some (.slice (some ⟨K,d,none⟩) (c.length+4:Nat) L)/\(j.setCell ⟨bk,0,none⟩ x).cell? ⟨t,0,none⟩=some (.int .i64 l))/\j.frozen? ⟨bk,0,none⟩=false from by
  intro bc x j P X;have r:I (λbx=>Value.ownBlock (.slice F g.length C)=some bx) n j:=(((I.refl _ n).alloc bc).trans (bS _ _) (λbx S=>.inl S)).trans (I.dU X) (λbx S=>.inl S);have u:=a.k.ay r (a.iX (by omega)).2.2;have f:=a.blocks (ks1:=g++[⟨e.length,c.length+4,JS,D,E⟩]) r (by rw[zL,ag];exact P);have ao:∀bx,Value.ownBlock (.slice F g.length C)=some bx->base<=bx:=λbx S=>(aK a.ok bx S).1;have B:I (xP s base (.slice A e.length z) U (.slice F g.length C)) bb (j.setCell ⟨bk,0,none⟩ x):=(q.trans r (λbx S=>.inl (.inr (.inr (.inr S))))).setCell bk 0 _ (.inl (.inl ⟨by omega,by omega⟩));exact⟨f,B,⟨r.low ao (by omega) k0,r.low ao (by omega) k1,(a.l.ay r (a.iX (by omega)).2.2).cell,(a.d.ay r (a.iX (by omega)).2.2).cell,(a.p.ay r (a.iX (by omega)).2.2).cell,(a.f.ay r (a.iX (by omega)).2.2).cell⟩,u.cell,⟨B.low p hg (Y bd),B.low p hg (Y bf),f.l.cell,f.d.cell,f.p.cell,f.f.cell⟩,u.free⟩)
 have bg:=Z a.ok
 have ds:base<=n.heap.size:=a.size
 have b1:N<n.heap.size:=by omega
 have b2:s<n.heap.size:=by omega
 have b3:k<n.heap.size:=by omega
 have b4:h<n.heap.size:=by omega
 have b5:bk<n.heap.size:=by omega
 have b6:t<n.heap.size:=by omega
 clear a q
 have hS:(n.drew.cell? ⟨N,b+l*4,none⟩=some (.string D)/\n.drew.cell? ⟨N,b+G*4,none⟩=some (.string E)/\n.drew.cell? ⟨s,0,none⟩=some (.slice (some ⟨N,b,none⟩) ax o)/\n.drew.cell? ⟨k,0,none⟩=some (.slice A e.length z)/\n.drew.cell? ⟨h,0,none⟩=some (.slice (some ⟨K,d,none⟩) (c.length+4:Nat) L)/\n.drew.cell? ⟨bk,0,none⟩=some (.slice F g.length C)/\n.drew.cell? ⟨t,0,none⟩=some (.int .i64 l)):=⟨by rw[aQ];exact k0,by rw[aQ];exact k1,by rw[aQ];exact l1,by rw[aQ];exact l2,by rw[aQ];exact l3,by rw[aQ];exact l4,by rw[aQ];exact l5⟩
 rename_i QQ KK bn
 refine bM (λbc=>(bc.cell? ⟨N,b+l*4,none⟩=some (.string D)/\bc.cell? ⟨N,b+G*4,none⟩=some (.string E)/\bc.cell? ⟨s,0,none⟩=some (.slice (some ⟨N,b,none⟩) ax o)/\bc.cell? ⟨k,0,none⟩=some (.slice A e.length z)/\bc.cell? ⟨h,0,none⟩=some (.slice (some ⟨K,d,none⟩) (c.length+4:Nat) L)/\bc.cell? ⟨bk,0,none⟩=some (.slice F g.length C)/\bc.cell? ⟨t,0,none⟩=some (.int .i64 l))) 22 (by kernel_rfl) ?_
 refine cz 0 ?_
 iterate 20 (refine cy (v:=?_) hS rfl (by kernel_rfl) (λ_ _ _ ba=>ba) (Or.inl ⟨by rfl,?_⟩) ?_;rotate_left;(focus(intro bc hX;obtain⟨x0,x1,x2,x3,x4,x5,x6⟩:=hX;go_simp;try with_reducible rfl));simp only[Act.put,Nat.reduceAdd,ab,ae,af])
 refine dG ?_
 refine aI (i:=20) rfl rfl (by kernel_rfl) ?_
 intro dx ac
 go_simp
 refine ac _ _ (λ_=>?_) ?_
 ·exact⟨by rw[aQ,dE b1];exact k0,by rw[aQ,dE b1];exact k1,by rw[aQ,dE b2];exact l1,by rw[aQ,dE b3];exact l2,by rw[aQ,dE b4];exact l3,by rw[aQ,dE b5];exact l4,by rw[aQ,dE b6];exact l5⟩
 refine aI (i:=21) rfl rfl (by kernel_rfl) ?_
 intro dT ad
 simp only[av,am,ap]
 refine ix (.tmp 9) (.tmp 29) 261 rfl base 316 i0 (.agg #[.int .i64 0,.int .i64 0,.int .i64 0,.string ⟨#[]⟩,.string ⟨#[]⟩]) 5 56 underlying261 cl cM cT db rfl (by decide) (.slice F g.length C) g.length (cO g) rfl (hZ (aM (Y bg) (.cells #[.int .i64 e.length,.int .i64 ((c.length:Int)+4),.int .i64 JS,.string D,.string E] 316)) rfl) ⟨n.heap.size,0,none⟩ 1 1 [.int .i64 e.length,.int .i64 ((c.length:Int)+4),.int .i64 JS,.string D,.string E] rfl rfl (GL _ _ _ _ _ _ _) (by simp[Value.oneCell']) (by omega) (by omega) (by simp;omega) ?_
 intro x j P X
 obtain⟨f,B,⟨s0,s1,s2,s3,s4,s6⟩,s5,⟨z0,z1,z2,z3,z4,z6⟩,bp⟩:=(Y bl) _ x j P X
 obtain⟨bv,bt,cn⟩:=aC P
 subst cn
 refine ad _ _ (λ_=>⟨s0,s1,s2,s3,s4,s5,s6⟩) ?_
 simp only[Act.put,ab,ae,af]
 refine aI (i:=22) rfl rfl (by kernel_rfl) ?_
 intro ea al
 go_simp
 refine al _ _ (λek=>(ek rfl).elim) ?_
 refine cr (by kernel_rfl) ?_ _
 show KK _ _
 refine bn _ _ ?_
 clear bn ac ad al z0 z1 z2 z3 z4 z6 s0 s1 s2 s3 s4 s5 s6 bp P X hS k0 k1 l1 l2 l3 l4 l5 b1 b2 b3 b4 b5 b6 bl bg
 generalize j.setCell ⟨bk,0,none⟩ (.slice bv (g.length+1) bt)=W3 at*
 generalize(Value.slice bv (g.length+1) bt)=dk at*
 have l2:=f.d.cell
 have l3:=f.p.cell
 have dc:=f.size
 have ca:=Z f.od
 have bT:=Z f.op.bytes
 have ef:(c++le 4 (jv c)).length=c.length+4:=by simp[bw]
 have ce:=Z (show∀H y,y.ownsRow base 5 1 H (e.length+(c.length+4)) (e.map (Value.int .u8)++(c++le 4 (jv c)).map (Value.int .u8))->du W3 y (.slice A e.length z) H->(y.cell? ⟨k,0,none⟩=some (.slice A e.length z)/\y.frozen? ⟨k,0,none⟩=false)/\((y.setCell ⟨k,0,none⟩ H).cell? ⟨h,0,none⟩=some (.slice (some ⟨K,d,none⟩) (c.length+4) L)/\(y.setCell ⟨k,0,none⟩ H).frozen? ⟨h,0,none⟩=false)/\(((y.setCell ⟨k,0,none⟩ H).setCell ⟨h,0,none⟩ (.slice none 0 0)).cell? ⟨t,0,none⟩=some (.int .i64 l)/\((y.setCell ⟨k,0,none⟩ H).setCell ⟨h,0,none⟩ (.slice none 0 0)).frozen? ⟨t,0,none⟩=false)/\kJ (((y.setCell ⟨k,0,none⟩ H).setCell ⟨h,0,none⟩ (.slice none 0 0)).setCell ⟨t,0,none⟩ (.int .i64 V)) base s k h bk t (.slice (some ⟨N,b,none⟩) ax o) H (.slice none 0 0) dk V (e++fS c) [] (g++[⟨e.length,c.length+4,JS,D,E⟩])/\I (xP s base (.slice A e.length z) U (.slice F g.length C)) bb (((y.setCell ⟨k,0,none⟩ H).setCell ⟨h,0,none⟩ (.slice none 0 0)).setCell ⟨t,0,none⟩ (.int .i64 V))from by
  intro H y Q R;have ao:=I.dU R;have u:=f.d.ay ao (f.iX (by omega)).1;have r:=f.data (ds1:=e++fS c) ao R.sr (dq.of Q (by rw[ag,eF]) (by unfold fS;rw[aN,aN,aN]));have bo:dY ((y.setCell ⟨k,0,none⟩ H).setCell ⟨h,0,none⟩ (.slice none 0 0)) t (.int .i64 l) 3:=r.f.other _ (by omega);refine⟨⟨u.cell,u.free⟩,⟨r.p.cell,r.p.free⟩,⟨bo.cell,bo.free⟩,r.fin,?_⟩;exact(((B.trans ao (λbx S=>.inl (.inr (.inl S)))).setCell k 0 _ (.inl (.inl ⟨by omega,by omega⟩))).setCell h 0 _ (.inl (.inl ⟨by omega,by omega⟩))).setCell t 0 _ (.inl (.inl ⟨by omega,by omega⟩)))
 clear f B
 go_wp2_with(first
  |(at_builtin;go_loud(refine aX _ rfl (.tmp 31) (.tmp 32) 119 rfl base 5 j0 (.int .u8 0) 1 1 underlying119 cm cx cB cE rfl (by decide) _ e.length (e.map (Value.int .u8)) rfl (Y ca) ⟨K,d,none⟩ (c.length+4) L ((c++le 4 (jv c)).map (Value.int .u8)) rfl (by simp[bw]) (py (Y bT)) (by intro el hu;simp only[aZ]at hu;obtain⟨em,_,rfl⟩:=hu;rfl) (by omega) (by omega) dc ?_;intro H y Q R;obtain⟨⟨y0,y1⟩,⟨y2,y3⟩,⟨y4,y5⟩,bs,br⟩:=(Y ce) H y Q R;obtain⟨x4,c4,rfl⟩:=aC Q;have cc:=Z bs;have cb:=Z br;clear Q R bs br)))
 go_end0
 exact⟨rfl,⟨_,_,Y cc⟩,Y cb⟩
def zy(c:List E):aa:=(c[0]?.map E.key).getD ⟨#[]⟩
def DZ(c:List E):aa:=(c[c.length-1]?.map E.key).getD ⟨#[]⟩
def EI(p:Nat)(c:List E):fW:=⟨p,(eU c).length+4,c.length,zy c,DZ c⟩
def aW:Nat->List (List E)->List fW
 |_,[]=>[]
 |p,c::a=>EI p c::aW (p+((eU c).length+4)) a
def ig:∀(a:List (List E))(p:Nat),(aW p a).length=a.length
 |[],_=>rfl
 |c::a,p=>by rw[aW,aE,ig a,aE]
def xF(c:List E):∀(a:List (List E))(p:Nat),aW p (a++[c])=aW p a++[EI (p+(cC a).length) c]
 |[],p=>by simp[aW,cC]
 |d::a,p=>by
  rw[dI,aW,xF c a,aW,dI,nh,ag,eF];congr 4;omega
def ux:∀(a:List (List E))(p i:Nat)(f:i<(aW p a).length)(b:i<a.length),(aW p a)[i]=EI (p+(cC (a.take i)).length) a[i]
 |[],_,i,_,b=>absurd b (fy i)
 |c::a,p,0,_,_=>by simp[aW,cC]
 |c::a,p,i+1,f,b=>by
  have e:i<(aW (p+((eU c).length+4)) a).length:=by simpa[aW]using f
  have d:i<a.length:=by simpa using b
  have h:=ux a (p+((eU c).length+4)) i e d;simp only[aW,am,nU,nh,ag,eF];rw[h];congr 1;omega
def AX{c:List E}(h:0<c.length):zy c=(c[0]'h).key:=by
 unfold zy;rw[aA h];rfl
def DY{c:List E}(h:0<c.length):DZ c=(c[c.length-1]'(by omega)).key:=by
 unfold DZ;rw[aA (by omega)];rfl
def MC{c:List E}(h:0<c.length)(p:Nat):(EI p c).Of c:=⟨h,rfl,rfl,AX h,DY h⟩
def Hn:∀(c:List E),c.length<=(eU c).length
 |[]=>by simp[eU]
 |x::c=>by
  have:=Hn c;unfold eU at*;rw[cF,ag,aE];have:8<=(qp x).length:=by unfold qp;rw[ag,bw];omega
  omega
structure mD(l:List E)(cs:List (List E)):Prop where
 flat:cs.flatten=l
 fit:∀c∈cs,0<c.length/\(eU c).length+4<=512
def mD.dw{l:List E}{a:List (List E)}(h:mD l a)(d:l≠[])(g:∀x∈l,x.Good)(j:fG l):pF (aW 0 a) a where
 len:=ig a 0
 ne:=by
  cases a with
  |nil=>exact absurd h.flat.symm (by simpa using d)
  |cons e a=>simp
 yU:=λi c b=>by
  rw[ux a 0 i c b];exact MC (h.fit _ (au b)).1 _
 pos:=λi c=>by
  have b:i<a.length:=by rw[ig]at c;exact c
  rw[ux a 0 i c b];simp[EI]
 gU:=λe b x a=>g x (by rw[<-h.flat];exact bH.2 ⟨e,b,a⟩)
 li:=by rw[h.flat];exact j
 small:=λe b=>by
  have:=(h.fit e b).2;have:=Hn e;omega
def mD.length{l:List E}{d:List (List E)}(h:mD l d):d.length<=l.length:=by
 rw[<-h.flat];have:=h.fit;clear h;induction d with
 |nil=>simp
 |cons c d o=>
  have r:=(this c (by simp)).1;have y:=o (λh d=>this h (by simp[d]));simp only[aE,aT,ag];omega
def mD.data{l:List E}{a:List (List E)}(h:mD l a):(cC a).length<=512*a.length:=by
 have:=h.fit;clear h;induction a with
 |nil=>simp[cC]
 |cons c a b=>
  have d:=(this c (by simp)).2;have e:=b (λd a=>this d (by simp[a]));rw[nh,ag,eF,aE];omega
def ql(k:fW):List Int:=le 4 k.size++(le 4 k.count++(cV k.first++cV k.last))
def dz(ks:List fW):List Int:=le 4 ks.length++ks.flatMap ql
structure Bq(w0 w:J)(x:Nat)(k:fW)(o:M)(bs:List Int):Prop where
 own:dq w w0.heap.size o bs
 box:wG w x k
 ne:o.ownBlock≠some x
 ay:I (λ_=>False) w0 w
def Bq.wrote{g w f:J}{x:Nat}{k:fW}{o d:M}{i a:List Int}(h:Bq g w x k o i)(b:du w f o d)(q:dq f g.heap.size d a):Bq g f x k d a:=by
 have p:=ak h.box;refine⟨q,h.box.ay (I.bz (S:=λj=>o.ownBlock=some j) b.grown (λ_ e=>.inl e)) h.ne,λe=>?_,h.ay.trans (I.bz (S:=λj=>o.ownBlock=some j) b.grown (λ_ e=>.inl e)) (λj e=>.inr (h.own.lt j e).1)⟩;rcases b.sr with m|⟨y,m,r⟩
 ·exact h.ne (m.symm.trans e)
 ·rw[m]at e;cases e;omega
def Bq.size{d w:J}{x:Nat}{k:fW}{o:M}{bs:List Int}(h:Bq d w x k o bs):d.heap.size<=w.heap.size:=h.ay.size
structure fW.Fits(k:fW):Prop where
 size:k.size<=1000000
 count:k.count<=1000000
 first:k.first.size<=255
 last:k.last.size<=255
def Ei{k:fW}(h:k.Fits):(ql k).length<=520:=by
 have:=h.first;have:=h.last;simp[ql,cV,bw,fa];omega
def iV{ks:List fW}(h:∀k∈ks,k.Fits):(ks.flatMap ql).length<=520*ks.length:=by
 induction ks with
 |nil=>simp
 |cons k ks b=>
  have a:=Ei (h k (by simp));have d:=b (λj a=>h j (by simp[a]));rw[cF,ag,aE];omega
def oP{n:Int}(a:0<=n)(b:n<4294967296):IntKind.u32.wrap n=n:=by rw[IntKind.wrap_u32];omega
def BI(ks:List fW)(E f bJ:Nat)(w:J)(hb:E<w.heap.size)(W:∀G ad,(cO ks)[G]?=some ad->w.cell? ⟨E,f+G,none⟩=some ad)(hl:ks.length<=1000000)(o:∀k∈ks,k.Fits):Calls prog 200 #[.slice (some ⟨E,f,none⟩) ks.length bJ] w λF w'=>∃v',F=.returned v'/\dq w' w.heap.size v' (dz ks)/\I (λ_=>False) w w':=by
 have x:=gQ w.heap.size (.slice none 0 0) [] (ks.length:Nat) w (dq.nil _ _) (ai _) (by simp) (by omega) (by omega);have e0:=oP (n:=(ks.length:Nat)) (by omega) (by omega);have HC:=Z W;have Q:=Z o;clear W o;go_enter func200,ntmps200
 go_wp2_with(go_at_call 171;refine x.mono ?_;rintro F w1⟨v1,rfl,g,h⟩;have H:=Z g;have K:=Z h;clear g h)
 go_loopw [3,12] (λo i wr=>∃n:Nat,n<=ks.length/\i=.int .i64 n/\dq wr w.heap.size o (le 4 ks.length++(ks.take n).flatMap ql)/\I (λ_=>False) w wr) (λ_ i _=>ks.length-(intOf i).toNat)
 case atStart=>exact⟨0,aU _,rfl,by simpa using Y H,I.bz (S:=λ_=>False) (Y K).grown (by intro k o;simp[Value.ownBlock]at o)⟩
 case round=>
  obtain⟨n,hn,rfl,d,e⟩:=hrel;have ac:=e.size;by_cases l:n<ks.length
  ·have m:∀G v,G<5->(fW.cells ks[n])[G]?=some v->wr.cell? ⟨E,f+n*5+G,none⟩=some v:=λG v a b=>e.cell (by rw[aP];exact(Y HC) _ _ ((fC ks n G l a).trans b)) (λc=>c) hb;have u:=(Y Q) ks[n] (au l);have X:(le 4 ks.length++(ks.take n).flatMap ql).length<=600000000:=by
    have h1:=iV (ks:=ks.take n) (λk o=>(Y Q) k (dC o));have h2:(ks.take n).length<=ks.length:=by simp;omega
    rw[ag,bw];omega
   have HS:=Z (show(le 4 ks.length++(ks.take n).flatMap ql)++ql ks[n]=le 4 ks.length++(ks.take (n+1)).flatMap ql from by
    rw[aV,aq l,dZ];simp)
   generalize ks[n]=k at*;generalize le 4 ks.length++(ks.take n).flatMap ql=t at*;obtain⟨pos,b,a,first,j⟩:=k;have p0:=m 0 _ (by omega) rfl;have p1:=m 1 _ (by omega) rfl;have p2:=m 2 _ (by omega) rfl;have p3:=m 3 _ (by omega) rfl;have p4:=m 4 _ (by omega) rfl;clear m;simp only[kD]at p0 p1 p2 p3 p4;have f1:=u.size;have f2:=u.count;have R:=u.first;have U:=u.last;simp only at f1 f2 R U;have e1:=oP (n:=(b:Nat)) (by omega) (by omega);have e2:=oP (n:=(a:Nat)) (by omega) (by omega);have V:Bq w (wr.alloc (.cells #[.int .i64 pos,.int .i64 b,.int .i64 a,.string first,.string j] 316)) wr.heap.size ⟨pos,b,a,first,j⟩ u3 t:=⟨d.alloc _,az _ rfl,λF=>by have:=(d.lt _ F).2;omega,e.alloc _⟩;have P:=Z V;clear d e u V;go_wp2_with fail
   refine(gQ w.heap.size u3 t (b:Nat) _ (Y P).own (by simp;omega) (by omega) (by omega) (by omega)).mono ?_;rintro F w1⟨v1,rfl,g,h⟩;have hA1:=(Y P).wrote h g;obtain⟨k0,k1,k2,k3,k4⟩:=hA1.box.cells;simp only at k0 k1 k2 k3 k4;have L:=hA1.size;have p:=Z hA1;clear hA1 g h;go_wp2_with fail
   refine(gQ w.heap.size v1 (t++le 4 b) (a:Nat) _ (Y p).own L (by rw[ag,bw];omega) (by omega) (by omega)).mono ?_;rintro F w2⟨v2,rfl,y,B⟩;have hA2:=(Y p).wrote B y;obtain⟨m0,m1,m2,m3,m4⟩:=hA2.box.cells;simp only at m0 m1 m2 m3 m4;have N:=hA2.size;have q:=Z hA2;clear hA2 y B;go_wp2_with fail
   refine(lF w.heap.size v2 ((t++le 4 b)++le 4 a) first _ (Y q).own N (by rw[ag,ag,bw,bw];omega) R).mono ?_;rintro F w3⟨v3,rfl,z,C⟩;have hA3:=(Y q).wrote C z;obtain⟨q0,q1,q2,q3,q4⟩:=hA3.box.cells;simp only at q0 q1 q2 q3 q4;have O:=hA3.size;have r:=Z hA3;clear hA3 z C;go_wp2_with fail
   refine(lF w.heap.size v3 (((t++le 4 b)++le 4 a)++(first.size:Int)::iw first) j _ (Y r).own O (by simp only[ag,bw,aE,fa];omega) U).mono ?_;rintro F w4⟨v4,rfl,A,D⟩;have hA4:=(Y r).wrote D A;have s:=Z hA4;clear hA4 A D;go_wp2;go_roundw;case rel=>
    refine⟨n+1,l,by go_num,?_,(Y s).ay⟩;rw[<-Y HS];have:=(Y s).own;simpa[ql,cV]using this
   case measure=>simp[intOf];omega
  ·have a:n=ks.length:=by omega
   subst a;rw[bD]at d;have b:=Z d;have j:=Z e;clear d e;go_wp2;go_ret;exact⟨_,rfl,Y b,Y j⟩
def wo(c:List E)(x:E):eU (c++[x])=eU c++qp x:=by simp[eU]
def Gz(a:List (List E))(c:List E):cC (a++[c])=cC a++fS (eU c):=by simp[cC]
def Hq{l:List E}{n:Nat}{b a:List E}(h:l.take n=b++a)(g:n<=l.length){i:Nat}(f:i<a.length):∃e:b.length+i<l.length,l[b.length+i]=a[i]:=by
 have d:n=b.length+a.length:=by
  have:=bB List.length h;simp at this;omega
 refine⟨by omega,?_⟩;have c:(l.take n)[b.length+i]'(by simp;omega)=(b++a)[b.length+i]'(by simp;omega):=by simp only[h]
 rw[fi,kL (by omega)]at c;simpa using c
def NF(W:J)(base j l n bk m w d f:Nat)(p s q:M)(o:List E)(r:Nat)(b:List (List E))(a:List E)(S:kJ W base j l n bk m (.slice (some ⟨w,d,none⟩) o.length f) p s q b.flatten.length (cC b) (eU a) (aW 0 b))(F:Steps W)(G:w<j)(y:∀Q R,(aF o)[Q]?=some R->W.cell? ⟨w,d+Q,none⟩=some R)(hcut:o.take r=b.flatten++a)(z:r<=o.length)(c:0<a.length)(X:o.length<=1000000)(k:∀O∈b,0<O.length/\(eU O).length+4<=512)(v:(eU a).length+4<=512):Calls prog 193 #[.int .i64 r,.pointer (some ⟨n,0,none⟩),.pointer (some ⟨bk,0,none⟩),.pointer (some ⟨l,0,none⟩),.pointer (some ⟨m,0,none⟩),.pointer (some ⟨j,0,none⟩)] W λP t=>
 P=.returned (.tuple #[])/\(∃g h,kJ t base j l n bk m (.slice (some ⟨w,d,none⟩) o.length f) g (.slice none 0 0) h (b++[a]).flatten.length (cC (b++[a])) (eU []) (aW 0 (b++[a])))/\I (xP j base p s q) W t:=by
 have e:r=b.flatten.length+a.length:=by
  have:=bB List.length hcut;simp only[cU,ag]at this;omega
 have x:mD b.flatten b:=⟨rfl,k⟩
 have T:=x.length
 have U:=x.data
 obtain⟨L,C⟩:=Hq hcut z c
 obtain⟨N,D⟩:=Hq hcut z (i:=a.length-1) (by omega)
 have u:=(dP o _ L).1
 have c1:=(dP o _ N).1
 rw[C]at u
 rw[D]at c1
 have V:=ig b 0
 refine(NE W base j l n bk m w d f o.length p s q b.flatten.length r (b.flatten.length+(a.length-1)) (cC b) (eU a) (aW 0 b) (zy a) (DZ a) S F G ?_ ?_ (by omega) (by omega) (by omega) (by omega) (by omega) (by omega) (by omega) (by omega)).mono ?_
 ·rw[AX c];simpa using y _ _ u
 ·rw[DY c];exact y _ _ c1
 ·rintro P t⟨rfl,⟨g,h,K⟩,H⟩;refine⟨rfl,⟨g,h,?_⟩,H⟩;have A:(b++[a]).flatten.length=r:=by rw[e];simp
  have B:aW 0 (b++[a])=aW 0 b++[⟨(cC b).length,(eU a).length+4,r-b.flatten.length,zy a,DZ a⟩]:=by
   rw[xF,e,lz,cw];rfl
  rw[A,B,Gz];exact K
def gI{w:J}{base a q b n:Nat}{v:M}{e:List M}(z:w.ownsRow base q b v n e)(o:a<=base):w.ownsRow a q b v n e:=by
 obtain⟨h,d⟩:=z;refine⟨h,?_⟩;rcases d with d|⟨y,c,g,r,s,t,x⟩
 ·exact .inl d
 ·exact .inr ⟨y,c,g,r,aB o s,t,x⟩
def dq.base{w:J}{base a:Nat}{v:M}{b:List Int}(h:dq w base v b)(d:a<=base):dq w a v b:=gI h d
def dq.OA{w:J}{base:Nat}{v:M}{c:List Int}(h:dq w base v c)(b:0<c.length):∃e a f,v=.slice (some ⟨e,a,none⟩) c.length f:=by
 rcases h.bytes.shape with⟨_,d⟩|⟨e,a,f,d,g⟩
 ·rw[d]at b;simp at b
 ·exact⟨e,a,f,d⟩
def yP(B:List E)(bk h p:Nat)(W:J)(hT:Steps W)(hg:bk<W.heap.size)(r:∀cn cl,(aF B)[cn]?=some cl->W.cell? ⟨bk,h+cn,none⟩=some cl)(cp:0<B.length)(Q:∀bl∈B,bl.Good)(hl:B.length<=1000000):Calls prog 150 #[.slice (some ⟨bk,h,none⟩) B.length p] W λca w'=>∃H K e,ca=.returned (.tuple #[H,K])/\mD B e/\dq w' W.heap.size H (cC e)/\w'.ownsRow W.heap.size 316 5 K e.length (cO (aW 0 e))/\I (λ_=>False) W w':=by
 obtain⟨i0,bt,bv,bx,bT⟩:=bK mr;have ch:=hT.lt;have HT:=Z hT;have HC:=Z r;have HG:=Z Q;clear hT r Q;go_enter func150,ntmps150
 go_wp2;go_loopw [15] (λi wr=>∃L e a H pv K,L<=B.length/\i=.int .i64 (L:Nat)/\kJ wr (W.heap.size+5) W.heap.size (W.heap.size+1) (W.heap.size+2) (W.heap.size+3) (W.heap.size+4) (.slice (some ⟨bk,h,none⟩) B.length p) H pv K e.flatten.length (cC e) (eU a) (aW 0 e)/\B.take L=e.flatten++a/\(∀u∈e,0<u.length/\(eU u).length+4<=512)/\(eU a).length+4<=512/\(a=[]->L=0)/\I (λ_=>False) W wr) (λi _=>B.length-(intOf i).toNat)
 case atStart=>
  refine⟨0,[],[],.slice none 0 0,.slice none 0 0,.slice none 0 0,aU _,rfl,⟨?_,?_,?_,?_,?_,dq.nil _ _,dq.nil _ _,bC _ _ _ _,(by simp[Value.ownBlock]),by omega,by simp⟩,by simp,by simp,by simp[eU],λ_=>rfl,(((((I.refl _ W).alloc _).alloc _).alloc _).alloc _).alloc _⟩
  ·exact((((dY.alloc (az _ rfl) _).alloc _).alloc _).alloc _)
  ·exact(((dY.alloc (az _ (by simp)) _).alloc _).alloc _)
  ·exact((dY.alloc (az _ (by simp)) _).alloc _)
  ·exact(dY.alloc (az _ (by simp)) _)
  ·exact az _ (by simp)
 case round=>
  obtain⟨L,e,a,H,pv,K,hn,rfl,D,hcut,s,A,bb,n⟩:=hrel;have cs:=D.size;obtain⟨px,pc,bf⟩:=aC D.op;have l1:=D.l.cell;have l3:=D.p.cell;have m:0<a.length->∀g,I (λ_=>False) wr g->Calls prog 193 #[.int .i64 L,.pointer (some ⟨W.heap.size+2,0,none⟩),.pointer (some ⟨W.heap.size+3,0,none⟩),.pointer (some ⟨W.heap.size+1,0,none⟩),.pointer (some ⟨W.heap.size+4,0,none⟩),.pointer (some ⟨W.heap.size,0,none⟩)] g λca w'=>
   ca=.returned (.tuple #[])/\(∃d f,kJ w' (W.heap.size+5) W.heap.size (W.heap.size+1) (W.heap.size+2) (W.heap.size+3) (W.heap.size+4) (.slice (some ⟨bk,h,none⟩) B.length p) d (.slice none 0 0) f (e++[a]).flatten.length (cC (e++[a])) (eU []) (aW 0 (e++[a])))/\I (xP W.heap.size (W.heap.size+5) H pv K) g w':=by
    intro b g c;have k:=n.trans c (λ_ u=>u.elim);exact NF g (W.heap.size+5) W.heap.size (W.heap.size+1) (W.heap.size+2) (W.heap.size+3) (W.heap.size+4) bk h p H pv K B L e a (D.ay c) ((Y HT).below (k.below (ai _) (λ_ u=>u.elim)) ch) hg (λcn cl i=>k.cell ((Y HC) cn cl i) id hg) hcut hn b hl s A
  have R:∀bh,xP W.heap.size (W.heap.size+5) H pv K bh->bh<wr.heap.size:=by
   rintro bh(⟨_,u⟩|u|u|u)
   ·omega
   ·exact(D.od.lt bh u).2
   ·exact(D.op.lt bh u).2
   ·exact(aK D.ok bh u).2
  have S:=D.low;have HE:=Z m;have cb:=Z R;have bn:=Z S;clear m R S;by_cases T:L<B.length
  ·have C:=(Y HG) B[L] (au T);have P:=dP B L T;have p0:wr.cell? ⟨bk,h+L*4,none⟩=some (.string B[L].key):=n.cell ((Y HC) _ _ P.1) id hg;have p1:wr.cell? ⟨bk,h+L*4+1,none⟩=some (.string B[L].val):=n.cell (by rw[aP];exact(Y HC) _ _ P.2.1) id hg;have p2:wr.cell? ⟨bk,h+L*4+2,none⟩=some (.bool B[L].del):=n.cell (by rw[aP];exact(Y HC) _ _ P.2.2.1) id hg;have p3:wr.cell? ⟨bk,h+L*4+3,none⟩=some (.int .u64 B[L].bV):=n.cell (by rw[aP];exact(Y HC) _ _ P.2.2.2) id hg;have O:B.take (L+1)=e.flatten++a++[B[L]]:=by rw[aq T,hcut]
   have ck:=pS C;have cj:0<(qp B[L]).length:=by unfold qp;rw[ag,bw];omega
   clear P;generalize B[L]=bl at*;have U:=BJ (W.heap.size+5) bl (wr.alloc (.cells #[.string bl.key,.string bl.val,.bool bl.del,.int .u64 bl.bV] 177)) (by simp;omega) (by have:=C.Ed;omega) (by have:=C.val;omega) C.b0 C.b1;obtain⟨cc,ha⟩:∃cc,(eU a).length=cc:=⟨_,rfl⟩;obtain⟨br,hb⟩:∃br,(qp bl).length=br:=⟨_,rfl⟩;have bp:=Z (show∀(v:Obj)b2 g,dq g (W.heap.size+5) b2 (qp bl)->du (wr.alloc v) g (.slice none 0 0) b2->∃z b G,b2=.slice (some ⟨z,b,none⟩) br G/\g.cell? ⟨W.heap.size+2,0,none⟩=some pv/\I (λ_=>False) wr g/\wr.heap.size<=z from by
    intro v b2 g k t;obtain⟨z,b,G,h1⟩:=k.OA (by omega);have c:I (λ_=>False) wr g:=((I.refl (λ_=>False) wr).alloc v).trans (I.dU t) (λbh hk=>by simp[Value.ownBlock]at hk);refine⟨z,b,G,by rw[h1,hb],?_,c,?_⟩
    ·exact(D.p.ay c id).cell
    ·rcases t.sr with q|⟨cv,q,F⟩
     ·rw[h1]at q;simp[Value.ownBlock]at q
     ·rw[h1]at q;simp[Value.ownBlock]at q;simp at F;omega)
   have bq:=Z (show∀(g d:J)(v:List (List E))(q:List E)bc al bi F,kJ g (W.heap.size+5) W.heap.size (W.heap.size+1) (W.heap.size+2) (W.heap.size+3) (W.heap.size+4) (.slice (some ⟨bk,h,none⟩) B.length p) bc al bi v.flatten.length (cC v) (eU q) (aW 0 v)->I (λ_=>False) W g->d.ownsRow (W.heap.size+5) 5 1 F ((eU q).length+br) ((eU q).map (Value.int .u8)++(qp bl).map (Value.int .u8))->du g d al F->(d.cell? ⟨W.heap.size+2,0,none⟩=some al/\d.frozen? ⟨W.heap.size+2,0,none⟩=false)/\kJ (d.setCell ⟨W.heap.size+2,0,none⟩ F) (W.heap.size+5) W.heap.size (W.heap.size+1) (W.heap.size+2) (W.heap.size+3) (W.heap.size+4) (.slice (some ⟨bk,h,none⟩) B.length p) bc F bi v.flatten.length (cC v) (eU (q++[bl])) (aW 0 v)/\I (λ_=>False) W (d.setCell ⟨W.heap.size+2,0,none⟩ F)from by
    intro g d v q bc al bi F o c ce ad;have bg:=I.dU ad;have bs:=o.p.ay bg (o.iX (by omega)).2.1;exact⟨⟨bs.cell,bs.free⟩,o.piece bg ad.sr (dq.of ce (by rw[wo,ag,hb]) (by rw[wo,aN])),(c.trans bg (λbh hk=>.inr (by have:=(o.op.lt bh hk).1;omega))).setCell _ 0 _ (.inr (by omega))⟩)
   have HV:=Z D;have bo:=Z n;have x:=Z O;have y:=Z s;have HA:=Z ha;have HB:=Z hb;rw[ha]at bf A;rw[hb]at ck cj;clear D n C O hcut s bb ha hb;obtain⟨xk,xv,xd,xb⟩:=bl;simp only at p0 p1 p2 p3 U;unfold E.value at U;simp only at U;subst bf;by_cases cm:(512:Int)<(cc:Int)+br+4
   ·have N:0<a.length:=by
     rcases de a.length with u|u
     ·obtain rfl:=aG u;have:=Y HA;simp[eU]at this;omega
     ·exact u
    have m:=(Y HE) N;have bs:=Z (show∀(g d:J)(z b G:Nat)(i j:M),I (λ_=>False) wr g->dq g (W.heap.size+5) (.slice (some ⟨z,b,none⟩) br G) (qp ⟨xk,xv,xd,xb⟩)->wr.heap.size<=z->kJ d (W.heap.size+5) W.heap.size (W.heap.size+1) (W.heap.size+2) (W.heap.size+3) (W.heap.size+4) (.slice (some ⟨bk,h,none⟩) B.length p) i (.slice none 0 0) j (e++[a]).flatten.length (cC (e++[a])) (eU []) (aW 0 (e++[a]))->I (xP W.heap.size (W.heap.size+5) H (.slice px cc pc) K) g d->d.cell? ⟨W.heap.size+2,0,none⟩=some (.slice none 0 0)/\dq d (W.heap.size+5) (.slice (some ⟨z,b,none⟩) br G) (qp ⟨xk,xv,xd,xb⟩)/\I (λ_=>False) W d/\W.heap.size+5<=d.heap.size from by
     intro g d z b G i j c k bd f l;refine⟨f.p.cell,l.own k (λbh hk u=>?_),((Y bo).trans c (λ_ u=>u.elim)).trans l (λbh hk=>.inr ((Y bn) bh hk)),f.size⟩;have:=(Y cb) bh u;simp[Value.ownBlock]at hk;omega)
    go_wp2_with(first
     |(go_at_call 194;refine U.mono ?_;rintro ca g⟨b2,rfl,k,t⟩;obtain⟨z,b,G,rfl,cd,c,bd⟩:=(Y bp) _ b2 g k t;have q:=m g c;have an:=Z k;have ao:=Z c;clear k t c)
     |(go_at_call 195;refine(yF ((cc:Int)+br) _ (by omega) (by omega)).mono ?_;rintro ca d⟨rfl,ad⟩;subst d)
     |(go_at_call 193;refine q.mono ?_;rintro ca d⟨rfl,⟨i,j,f⟩,l⟩;obtain⟨y0,F,al,ce⟩:=(Y bs) g d z b G i j (Y ao) (Y an) bd f l;have bc:=Z (py F.bytes);have bi:=Z f;have bg:=Z al;clear f l al F)
     |(at_builtin;go_loud(refine aX _ rfl (.tmp 32) (.tmp 33) 119 rfl (W.heap.size+5) 5 i0 (.int .u8 0) 1 1 underlying119 bt bv bx bT rfl (by decide) _ 0 ([].map (Value.int .u8)) rfl (bC _ _ _ _) ⟨z,b,none⟩ br G ((qp ⟨xk,xv,xd,xb⟩).map (Value.int .u8)) rfl (by rw[bW,Y HB,nw]) (Y bc) (by intro cl hu;simp only[aZ]at hu;obtain⟨cv,_,rfl⟩:=hu;rfl) (by omega) (by omega) ce ?_;intro v4 w4 w ac;obtain⟨⟨y2,y1⟩,X,V⟩:=(Y bq) d w4 (e++[a]) [] i _ j v4 (Y bi) (Y bg) w ac;have v:=w;rw[cw]at v;obtain⟨x4,c4,rfl⟩:=aC v;have ba:=Z X;have ax:=Z V;clear w v ac X V)))
    go_roundw;case rel=>exact⟨L+1,e++[a],[⟨xk,xv,xd,xb⟩],i,_,j,T,by go_num,Y ba,by rw[Y x];simp,by intro u r;rcases aw.1 r with r|r;exact(Y y) u r;simp at r;subst r;rw[Y HA];exact⟨N,A⟩,by have h1:eU [⟨xk,xv,xd,xb⟩]=qp ⟨xk,xv,xd,xb⟩:=(by simp[eU]);rw[h1,Y HB];omega,by simp,Y ax⟩
    case measure=>simp[intOf];omega
   ·go_wp2_with(first
     |(go_at_call 194;refine U.mono ?_;rintro ca g⟨b2,rfl,k,t⟩;obtain⟨z,b,G,rfl,cd,c,bd⟩:=(Y bp) _ b2 g k t;have q:=py k.bytes;have o:=(Y HV).ay c;have v:=o.op;have bc:=o.size;have an:=Z v;have al:=Z o;have F:=Z q;have ao:=Z c;clear k t c q o v)
     |(go_at_call 195;refine(yF ((cc:Int)+br) _ (by omega) (by omega)).mono ?_;rintro ca d⟨rfl,ad⟩;subst d)
     |(at_builtin;go_loud(refine aX _ rfl (.tmp 32) (.tmp 33) 119 rfl (W.heap.size+5) 5 i0 (.int .u8 0) 1 1 underlying119 bt bv bx bT rfl (by decide) _ cc ((eU a).map (Value.int .u8)) rfl (by have h0:=Y an;unfold dq at h0;rw[Y HA]at h0;exact h0) ⟨z,b,none⟩ br G ((qp ⟨xk,xv,xd,xb⟩).map (Value.int .u8)) rfl (by rw[bW,Y HB,nw]) (Y F) (by intro cl hu;simp only[aZ]at hu;obtain⟨cv,_,rfl⟩:=hu;rfl) (by omega) (by omega) bc ?_;intro v4 w4 w ac;obtain⟨⟨y0,y1⟩,X,V⟩:=(Y bq) g w4 e a H _ K v4 (Y al) ((Y bo).trans (Y ao) (λ_ u=>u.elim)) (by rw[Y HA];exact w) ac;obtain⟨x4,c4,rfl⟩:=aC w;have ba:=Z X;have ax:=Z V;clear w ac X V)))
    go_roundw;case rel=>exact⟨L+1,e,a++[⟨xk,xv,xd,xb⟩],H,_,K,T,by go_num,Y ba,by rw[Y x,aV],Y y,by rw[wo,ag,Y HA,Y HB];omega,by simp,Y ax⟩
    case measure=>simp[intOf];omega
  ·have F:L=B.length:=by omega
   subst F;have N:0<a.length:=by
    rcases de a.length with u|u
    ·have:=bb (aG u);omega
    ·exact u
   have m:=(Y HE) N wr (I.refl _ _);rw[bD]at hcut;have x:=Z hcut;have y:=Z s;have G:=Z (show∀d i j,kJ d (W.heap.size+5) W.heap.size (W.heap.size+1) (W.heap.size+2) (W.heap.size+3) (W.heap.size+4) (.slice (some ⟨bk,h,none⟩) B.length p) i (.slice none 0 0) j (e++[a]).flatten.length (cC (e++[a])) (eU []) (aW 0 (e++[a]))->I (xP W.heap.size (W.heap.size+5) H pv K) wr d->dq d W.heap.size i (cC (e++[a]))/\d.ownsRow W.heap.size 316 5 j (e++[a]).length (cO (aW 0 (e++[a])))/\I (λ_=>False) W d from by
    intro d i j f l;have h1:=f.ok;rw[ig]at h1;exact⟨f.od.base (by omega),gI h1 (by omega),n.trans l (λbh hk=>.inr ((Y bn) bh hk))⟩)
   clear D n hcut s bb bf HE;generalize b:e++[a]=C at*;have q:=Z b;clear b;go_wp2_with(go_at_call 193;refine m.mono ?_;rintro ca d⟨rfl,⟨i,j,f⟩,l⟩;have P:=f.d.cell;have U:=f.k.cell;obtain⟨k,o,t⟩:=(Y G) d i j f l;obtain⟨x4,c4,rfl⟩:=aC k;obtain⟨O,c5,rfl⟩:=aC o;have v:=Z k;have w:=Z o;have z:=Z t;clear f l k o t)
   go_quiet(fail)
   go_wp2;go_ret2
   refine⟨_,_,C,rfl,⟨by rw[Y x,<-Y q];simp,?_⟩,Y v,Y w,(Y z).of_heap rfl⟩;intro u r;rw[<-Y q]at r;rcases aw.1 r with r|r
   ·exact(Y y) u r
   ·simp at r;subst r;exact⟨N,A⟩
end Go.Proofs.YtophdnlmpfmeiaaGreatDoor
