import Derived.Deep.RegionHeld3
import Derived.Laws.Rows
import Derived.Shelf.Abstract
import Derived.Test.YtophdnlmpfmeiaaGreatDoorC1
import Derived.Test.YtophdnlmpfmeiaaGreatDoorC2
import Derived.Test.YtophdnlmpfmeiaaGreatDoorC3
namespace Go.Proofs.YtophdnlmpfmeiaaGreatDoor
open ChangeShapes WideShapes RowKit Proofs.Tryz
set_option maxHeartbeats 16000000
set_option linter.all false
set_option maxRecDepth 100000
def E.value(e:E):M:=.agg #[.string e.key,.string e.val,.bool e.del,.int .u64 e.bV]
def E.cells(e:E):List M:=[.string e.key,.string e.val,.bool e.del,.int .u64 e.bV]
def lw(d:Bool):Int:=if d then 1 else 0
def cV(s:aa):List Int:=(s.size:Int)::iw s
def jO(e:E):List Int:=lw e.del::(cV e.key++cV e.val)
def du.ne{w g:J}{v b:M}(h:du w g v b){N:Nat}(d:v.ownBlock≠some N)(k:N<w.heap.size):b.ownBlock≠some N:=by
 rcases h.sr with e|⟨m,e,l⟩
 ·rw[e];exact d
 ·rw[e];simp;omega
def du.cell{w w':J}{v e:M}(h:du w w' v e){N i:Nat}{u:M}(a:w.cell? ⟨N,i,none⟩=some u)(d:v.ownBlock≠some N):w'.cell? ⟨N,i,none⟩=some u:=h.grown.cell a (λg=>d g.symm)
def dq.lt{w:J}{base:Nat}{v:M}{bs:List Int}(h:dq w base v bs):∀k,v.ownBlock=some k->base<=k/\k<w.heap.size:=aK h
def dq.of_heap{w w':J}{base:Nat}{v:M}{b:List Int}(h:dq w base v b)(e:w'.heap=w.heap):dq w' base v b:=by
 unfold dq World.ownsRow at*;rw[e];exact h
def du.of_heap{a w w':J}{u v:M}(h:du w w' u v)(d:(a.os,a.tape,a.output,a.heap)=(w.os,w.tape,w.output,w.heap)):du a w' u v:=by
 simp only[eY]at d;obtain⟨e,g,o,b⟩:=d;refine⟨⟨by rw[h.grown.os,e],by rw[h.grown.tape,g],by rw[h.grown.output,o],by rw[b];exact h.grown.size,λk d q=>by rw[b]at d|-;exact h.grown.block k d q⟩,by rw[b];exact h.sr⟩
def du.wC{a b:J}{u v:M}{o:Obj}(h:du (a.alloc o).drew b u v):du a b u v:=(du.of_heap (a:=a.alloc o) h rfl).alloc o
def GZ(base:Nat)(Q:M)(p:List Int)(T:E)(w:J)(m:dq w base Q p)(U:base<=w.heap.size)(V:p.length<=35184372088832)(H:T.key.size<=255)(L:T.val.size<=255):Calls prog 170 #[Q,T.value] w λy S=>∃O,y=.returned O/\dq S base O (p++jO T)/\du w S Q O:=by
 obtain⟨c,d,v,bV⟩:=T;simp only at H L;unfold E.value;simp only;have g:Q.ownBlock≠some w.heap.size:=λy=>by have:=(m.lt _ y).2;omega
 have R:=Z (m.alloc (.cells #[.string c,.string d,.bool v,.int .u64 bV] 177));clear m;cases v with
 |true=>
  go_enter func170,ntmps170
  go_wp2_with fail
  go_region_held3(λX=>X.cell? ⟨w.heap.size,0,none⟩=some (.string c)/\X.cell? ⟨w.heap.size,1,none⟩=some (.string d)) (first|assumption|go_keep) (first
   |(go_at_call 169;refine(pO base Q p 1 _ ?_ (by simp;omega) (by omega)).mono ?_;exact(Y R).of_heap rfl;rintro y t⟨r,rfl,i,a⟩;have f:r.ownBlock≠some w.heap.size:=a.ne g (by simp);have n:t.cell? ⟨w.heap.size,0,none⟩=some (.string c)/\t.cell? ⟨w.heap.size,1,none⟩=some (.string d):=⟨a.cell (by simp) g,a.cell (by simp) g⟩;have q:w.heap.size<t.heap.size:=(by have:=a.grown.size;simp at this;omega);have z:=Z i;have C:=Z a;clear i a)
   |(go_at_call_of 207 r;refine(lF base r (p++[1]) c _ ?_ (by omega) ?_ H).mono ?_;exact(Y z).of_heap rfl;(simp;omega);rintro y u⟨s,rfl,j,b⟩;have h:s.ownBlock≠some w.heap.size:=b.ne f q;have o:u.cell? ⟨w.heap.size,0,none⟩=some (.string c)/\u.cell? ⟨w.heap.size,1,none⟩=some (.string d):=⟨b.cell n.1 f,b.cell n.2 f⟩;have N:w.heap.size<u.heap.size:=(by have:=b.grown.size;omega);have A:=Z j;have D:=Z ((Y C).trans b);clear j b)
   |(go_at_call_of 207 s;refine(lF base s (p++[1]++cV c) d _ ?_ (by omega) ?_ L).mono ?_;exact(Y A).of_heap rfl;(simp[cV,fa];omega);rintro y x⟨P,rfl,k,e⟩;have K:x.cell? ⟨w.heap.size,0,none⟩=some (.string c)/\x.cell? ⟨w.heap.size,1,none⟩=some (.string d):=⟨e.cell o.1 h,e.cell o.2 h⟩;have B:=Z k;have F:=Z ((Y D).trans e);clear k e))
  go_wp2;go_ret;refine⟨P,rfl,?_,(Y F).wC⟩;have G:=Y B;simpa[jO,lw,cV,aV]using G
 |false=>
  go_enter func170,ntmps170
  go_wp2_with fail
  go_region_held3(λX=>X.cell? ⟨w.heap.size,0,none⟩=some (.string c)/\X.cell? ⟨w.heap.size,1,none⟩=some (.string d)) (first|assumption|go_keep) (first
   |(go_at_call 169;refine(pO base Q p 0 _ ?_ (by simp;omega) (by omega)).mono ?_;exact(Y R).of_heap rfl;rintro y t⟨r,rfl,i,a⟩;have f:r.ownBlock≠some w.heap.size:=a.ne g (by simp);have n:t.cell? ⟨w.heap.size,0,none⟩=some (.string c)/\t.cell? ⟨w.heap.size,1,none⟩=some (.string d):=⟨a.cell (by simp) g,a.cell (by simp) g⟩;have q:w.heap.size<t.heap.size:=(by have:=a.grown.size;simp at this;omega);have z:=Z i;have C:=Z a;clear i a)
   |(go_at_call_of 207 r;refine(lF base r (p++[0]) c _ ?_ (by omega) ?_ H).mono ?_;exact(Y z).of_heap rfl;(simp;omega);rintro y u⟨s,rfl,j,b⟩;have h:s.ownBlock≠some w.heap.size:=b.ne f q;have o:u.cell? ⟨w.heap.size,0,none⟩=some (.string c)/\u.cell? ⟨w.heap.size,1,none⟩=some (.string d):=⟨b.cell n.1 f,b.cell n.2 f⟩;have N:w.heap.size<u.heap.size:=(by have:=b.grown.size;omega);have A:=Z j;have D:=Z ((Y C).trans b);clear j b)
   |(go_at_call_of 207 s;refine(lF base s (p++[0]++cV c) d _ ?_ (by omega) ?_ L).mono ?_;exact(Y A).of_heap rfl;(simp[cV,fa];omega);rintro y x⟨P,rfl,k,e⟩;have K:x.cell? ⟨w.heap.size,0,none⟩=some (.string c)/\x.cell? ⟨w.heap.size,1,none⟩=some (.string d):=⟨e.cell o.1 h,e.cell o.2 h⟩;have B:=Z k;have F:=Z ((Y D).trans e);clear k e))
  go_wp2;go_ret;refine⟨P,rfl,?_,(Y F).wC⟩;have G:=Y B;simpa[jO,lw,cV,aV]using G
def mj{a b:Bool}(h:a=b):Ending.returned (.bool a)=.returned (.bool b):=by rw[h]
def mX(s:aa)(w:J)(f:s.size<=140737488351232):Calls prog 63 #[.string s] w λe d=>e=.returned (.bool (decide (1<=s.size/\s.size<=8)))/\d=w:=by
 by_cases b:1<=s.size
 ·by_cases c:s.size<=8
  ·have a:decide (1<=s.size/\s.size<=8)=true:=by simp[b,c]
   rw[a];go_enter func63,ntmps63
   go_wp2;go_ret;exact⟨mj (by simp;omega),rfl⟩
  ·have a:decide (1<=s.size/\s.size<=8)=false:=by simp[b,c]
   rw[a];go_enter func63,ntmps63
   go_wp2;go_ret;exact⟨mj (by simp;omega),rfl⟩
 ·have a:decide (1<=s.size/\s.size<=8)=false:=by simp[b]
  rw[a];go_enter func63,ntmps63
  go_wp2;go_ret;exact⟨rfl,rfl⟩
def td(s:aa)(w:J)(d:s.size<=140737488351232):Calls prog 64 #[.string s] w λe c=>e=.returned (.bool (decide (s.size<=16)))/\c=w:=by
 by_cases b:s.size<=16
 ·have a:decide (s.size<=16)=true:=by simp[b]
  rw[a];go_enter func64,ntmps64
  go_wp2;go_ret;exact⟨mj (by simp;omega),rfl⟩
 ·have a:decide (s.size<=16)=false:=by simp[b]
  rw[a];go_enter func64,ntmps64
  go_wp2;go_ret;exact⟨mj (by simp;omega),rfl⟩
def BJ(base:Nat)(x:E)(w:J)(F:base<=w.heap.size)(p:x.key.size<=255)(q:x.val.size<=255)(n:0<=x.bV)(o:x.bV<18446744073709551616):Calls prog 194 #[x.value] w λz s=>∃m,z=.returned m/\dq s base m (le 8 x.bV++jO x)/\du w s (.slice none 0 0) m:=by
 obtain⟨g,h,d,bV⟩:=x;simp only at p q n o;unfold E.value;simp only;have c:(Value.slice none 0 0).ownBlock≠some w.heap.size:=by simp[Value.ownBlock]
 go_enter func194,ntmps194
 go_wp2_with fail
 go_region_held3(λX=>X.cell? ⟨w.heap.size,0,none⟩=some (.string g)/\X.cell? ⟨w.heap.size,1,none⟩=some (.string h)/\X.cell? ⟨w.heap.size,2,none⟩=some (.bool d)/\X.cell? ⟨w.heap.size,3,none⟩=some (.int .u64 bV)) (first|assumption|go_keep) (first
  |(go_at_call 168;refine(lG base (.slice none 0 0) [] bV _ (dq.nil _ _) (by simp;omega) (by simp) n o).mono ?_;rintro z k⟨r,rfl,i,a⟩;have e:r.ownBlock≠some w.heap.size:=a.ne c (by simp);have f:k.cell? ⟨w.heap.size,0,none⟩=some (.string g)/\k.cell? ⟨w.heap.size,1,none⟩=some (.string h)/\k.cell? ⟨w.heap.size,2,none⟩=some (.bool d)/\k.cell? ⟨w.heap.size,3,none⟩=some (.int .u64 bV):=⟨a.cell (by simp) c,a.cell (by simp) c,a.cell (by simp) c,a.cell (by simp) c⟩;have C:w.heap.size<k.heap.size:=(by have:=a.grown.size;simp at this;omega);have t:=Z i;have v:=Z a;clear i a)
  |(go_at_call 170;refine(GZ base r ([]++le 8 bV) ⟨g,h,d,bV⟩ _ ?_ (by omega) (by simp[bw]) p q).mono ?_;exact(Y t).of_heap rfl;rintro z l⟨D,rfl,j,b⟩;have B:l.cell? ⟨w.heap.size,0,none⟩=some (.string g)/\l.cell? ⟨w.heap.size,1,none⟩=some (.string h)/\l.cell? ⟨w.heap.size,2,none⟩=some (.bool d)/\l.cell? ⟨w.heap.size,3,none⟩=some (.int .u64 bV):=⟨b.cell f.1 e,b.cell f.2.1 e,b.cell f.2.2.1 e,b.cell f.2.2.2 e⟩;have u:=Z j;have y:=Z ((Y v).trans b);clear j b))
 go_wp2;go_ret;refine⟨D,rfl,?_,(Y y).wC⟩;have A:=Y u;simpa using A
structure E.Good(x:E):Prop where
 LH:1<=x.key.size
 Ed:x.key.size<=8
 val:x.val.size<=16
 del:x.del=true->x.val=⟨#[]⟩
 b0:0<=x.bV
 b1:x.bV<18446744073709551616
def jI(a b:List Int):gP (a++b) false a.length=(b,false,a):=by
 unfold gP;rw[dd (by simp)];simp
def rr(s:aa)(b:List Int):ym (cV s++b) false=(b,false,iw s)/\num (cV s++b) false 1=s.size:=by
 have a:gP (cV s++b) false 1=(iw s++b,false,[(s.size:Int)]):=by
  have:=jI [(s.size:Int)] (iw s++b);simpa[cV]using this
 have c:num (cV s++b) false 1=s.size:=by unfold num;rw[a];simp[jb]
 refine⟨?_,c⟩;unfold ym;simp only[a,c];have:=jI (iw s) b;rw[fa]at this;simpa using this
def Ec(d:Bool)(b:List Int):gP (lw d::b) false 1=(b,false,[lw d])/\num (lw d::b) false 1=lw d:=by
 have h:=jI [lw d] b;have a:gP (lw d::b) false 1=(b,false,[lw d]):=by simpa using h
 exact⟨a,by unfold num;rw[a];simp[jb]⟩
structure gz where
 D:J->Prop
 F:Nat->Prop
 dF:∀{w w':J}{S:Nat->Prop},D w->I S w w'->(∀k,S k->¬F k)->D w'
 lt:∀{w:J}{k:Nat},D w->F k->k<w.heap.size
def ia(V:gz)(b:Nat)(S:Nat->Prop)(w a:J):Prop:=w.heap.size<=a.heap.size/\∀k,((k<b/\¬V.F k)\/S k)->a.heap[k]?=w.heap[k]?
def ia.refl(V:gz)(n0:Nat)(S:Nat->Prop)(w:J):ia V n0 S w w:=⟨ai _,λ_ _=>rfl⟩
def ia.trans{V:gz}{n0:Nat}{S:Nat->Prop}{a b c:J}(h:ia V n0 S a b)(k:ia V n0 S b c):ia V n0 S a c:=⟨aB h.1 k.1,λi d=>(k.2 i d).trans (h.2 i d)⟩
def ia.mono{V:gz}{n0:Nat}{S T:Nat->Prop}{a b:J}(h:ia V n0 S a b)(d:∀k,T k->S k):ia V n0 T a b:=⟨h.1,λi e=>h.2 i (e.imp id (d i))⟩
def ia.cell{V:gz}{n0:Nat}{S:Nat->Prop}{a b:J}(h:ia V n0 S a b){k i:Nat}{u:M}(e:S k\/(k<n0/\¬V.F k))(d:a.cell? ⟨k,i,none⟩=some u):b.cell? ⟨k,i,none⟩=some u:=(bI (w:=a) (h.2 k e.symm)).trans d
def I.same{V:gz}{n0:Nat}{S T:Nat->Prop}{c j:J}(h:I T c j)(o:n0<=c.heap.size)(b:∀k,S k->k<c.heap.size/\¬T k)(e:∀k,T k->k<n0->V.F k):ia V n0 S c j:=by
 refine⟨h.size,λk g=>?_⟩;rcases g with⟨a,d⟩|a
 ·exact h.block k (by omega) (λb=>d (e k b a))
 ·exact h.block k (b k a).1 (b k a).2
def az{w:J}{n:Nat}(o:Obj)(h:n=w.heap.size):(w.alloc o).heap[n]?=some o:=by
 subst h;show(w.heap.push o)[w.heap.size]?=some o;simp
def dL{w:J}{b:Nat}(o:Obj)(h:b<w.heap.size):(w.alloc o).heap[b]?=w.heap[b]?:=Below.heap_alloc w o b h
def eP{w:J}{b b' i:Nat}(u:M)(h:b≠b'):(w.setCell ⟨b',i,none⟩ u).heap[b]?=w.heap[b]?:=Below.heap_setCell w ⟨b',i,none⟩ u b h
def gp{w:J}{b i:Nat}{u:M}:(w.setCell ⟨b,i,none⟩ u).heap.size=w.heap.size:=by simp[World.setCell]
abbrev dY(w:J)(b:Nat)(v:M)(t:TypeId):Prop:=w.heap[b]?=some (.cells #[v] t (0,0))
def dY.cell{w:J}{b:Nat}{v:M}{t:TypeId}(h:dY w b v t):w.cell? ⟨b,0,none⟩=some v:=by rw[aj h];rfl
def dY.free{w:J}{b:Nat}{v:M}{t:TypeId}(h:dY w b v t):w.frozen? ⟨b,0,none⟩=false:=cG h
def dY.set{w:J}{b:Nat}{v:M}{t:TypeId}(h:dY w b v t)(u:M):dY (w.setCell ⟨b,0,none⟩ u) b u t:=(aL h).trans rfl
def dY.other{w:J}{b:Nat}{v:M}{t:TypeId}(h:dY w b v t){b' i:Nat}(u:M)(a:b≠b'):dY (w.setCell ⟨b',i,none⟩ u) b v t:=(eP u a).trans h
def dY.alloc{w:J}{b:Nat}{v:M}{t:TypeId}(h:dY w b v t)(o:Obj):dY (w.alloc o) b v t:=(dL o (ak h)).trans h
def fX(w:J)(b:Nat)(x:E):Prop:=w.heap[b]?=some (.cells #[.string x.key,.string x.val,.bool x.del,.int .u64 x.bV] 177 (0,0))
def fX.cells{w:J}{b:Nat}{x:E}(h:fX w b x):w.cell? ⟨b,0,none⟩=some (.string x.key)/\w.cell? ⟨b,1,none⟩=some (.string x.val)/\w.cell? ⟨b,2,none⟩=some (.bool x.del)/\w.cell? ⟨b,3,none⟩=some (.int .u64 x.bV):=by
 refine⟨?_,?_,?_,?_⟩<;>rw[aj h]<;>rfl
def fX.free{w:J}{b i:Nat}{x:E}(h:fX w b x):w.frozen? ⟨b,i,none⟩=false:=cG h
def fX.alloc{w:J}{b:Nat}{x:E}(h:fX w b x)(o:Obj):fX (w.alloc o) b x:=(dL o (ak h)).trans h
def fX.ay{w w':J}{b:Nat}{x:E}{S:Nat->Prop}(h:fX w b x)(d:I S w w')(a:¬S b):fX w' b x:=(d.block b (ak h) a).trans h
def fX.put{w:J}{b:Nat}{x:E}(h:fX w b x)(y:E):fX ((((w.setCell ⟨b,0,none⟩ (.string y.key)).setCell ⟨b,1,none⟩ (.string y.val)).setCell ⟨b,2,none⟩ (.bool y.del)).setCell ⟨b,3,none⟩ (.int .u64 y.bV)) b y:=(aL (aL (aL (aL h)))).trans rfl
def ez{d:Func}{p u v:Tmp}(k:d.results=#[.cell p 177,.tmp u,.tmp v])(a:Array M)(w:J)(g:Nat)(x:E)(t:TypeId)(e:Nat×Nat)(j:a.getD p undef=.pointer (some ⟨g,0,none⟩))(f:w.heap[g]?=some (.cells #[.string x.key,.string x.val,.bool x.del,.int .u64 x.bV] t e)):(results d a).run prog w=.ok (.tuple #[x.value,a.getD u undef,a.getD v undef]) w:=by
 have c:a[p]?.getD undef=.pointer (some ⟨g,0,none⟩):=by simpa using j
 have h:=jM (P:=prog) w g t 177 #[.string x.key,.string x.val,.bool x.del,.int .u64 x.bV] e _ f underlying177 rfl (by kernel_rfl);simp[results,k,c,asAddr,h,Result.andThen,E.value]
def tQ:M:=.agg #[.string ⟨#[]⟩,.string ⟨#[]⟩,.bool false,.int .u64 0]
structure re(V:gz)(n0:Nat)(S:Nat->Prop)(w:J):Prop where
 size:n0<=w.heap.size
 aH:∀k,V.F k->k<n0
 each:∀k,S k->n0<=k/\k<w.heap.size
def Bo(V:gz)(n0 g:Nat)(d:Array M):List E->(Nat->Prop)->J->Prop
 |[],S,w=>re V n0 S w/\∀c,ia V n0 S w c->V.D c->Calls prog g d c λf a=>f=.returned (.tuple #[tQ,.bool false,.nilIface])/\V.D a/\I (λk=>S k\/V.F k) c a
 |x::l,S,w=>re V n0 S w/\∀c,ia V n0 S w c->V.D c->Calls prog g d c λf a=>f=.returned (.tuple #[x.value,.bool true,.nilIface])/\V.D a/\I (λk=>S k\/V.F k) c a/\∃e,(∀k,e k->S k\/c.heap.size<=k)/\Bo V n0 g d l e a
def re.apart{V:gz}{n0:Nat}{S:Nat->Prop}{w:J}(h:re V n0 S w):∀k,S k->¬V.F k:=λk b a=>by have:=h.aH k a;have:=(h.each k b).1;omega
def re.ay{V:gz}{n0:Nat}{S T:Nat->Prop}{w w':J}(h:re V n0 S w)(d:I T w w'):re V n0 S w':=⟨aB h.1 d.size,h.aH,λk a=>⟨(h.each k a).1,ah (h.each k a).2 d.size⟩⟩
def re.same{V:gz}{n0:Nat}{S:Nat->Prop}{w w':J}(h:re V n0 S w)(hs:ia V n0 S w w'):re V n0 S w':=⟨aB h.1 hs.1,h.aH,λk a=>⟨(h.each k a).1,ah (h.each k a).2 hs.1⟩⟩
def Bo.own{V:gz}{n0 f:Nat}{a:Array M}{l:List E}{S:Nat->Prop}{w:J}(h:Bo V n0 f a l S w):re V n0 S w:=by
 cases l<;>exact h.1
def Bo.same{V:gz}{n0 f:Nat}{d:Array M}{l:List E}{S:Nat->Prop}{w w':J}(h:Bo V n0 f d l S w)(hs:ia V n0 S w w'):Bo V n0 f d l S w':=by
 cases l with
 |nil=>exact⟨h.1.same hs,λc a b=>h.2 c (hs.trans a) b⟩
 |cons x l=>exact⟨h.1.same hs,λc a b=>h.2 c (hs.trans a) b⟩
def gy(V:gz)(n0:Nat)(v:M)(l:List E)(S:Nat->Prop)(w:J):Prop:=∃f c,v=.func (.func f) #[] c/\(∀a w,(callFunc f a).run prog w=.ok (.enter f a) w)/\Bo V n0 f c l S w
def gy.same{V:gz}{n0:Nat}{v:M}{l:List E}{S:Nat->Prop}{w w':J}(h:gy V n0 v l S w)(hs:ia V n0 S w w'):gy V n0 v l S w':=by
 obtain⟨f,a,b,c,d⟩:=h;exact⟨f,a,b,c,d.same hs⟩
def gy.own{V:gz}{n0:Nat}{v:M}{l:List E}{S:Nat->Prop}{w:J}(h:gy V n0 v l S w):re V n0 S w:=by
 obtain⟨f,b,d,e,a⟩:=h;exact a.own
def kr(n:Int):M:=if n=0 then .nilIface else .iface 55 (.int .i64 n)
def DO(S:M)(a:List nk)(x:J)(hp:tD x S a)(L:∀ad,S.ownBlock=some ad->ad<x.heap.size)(hr:a.length<=1000000000000)(N:∀Q∈a,Q.key.size<=140737488351232/\Q.val.size<=140737488351232):Calls prog 42 #[S] x λl d=>l=.returned (kr (eB a))/\I (λ_=>False) x d:=by
 have K:∀(Q:Bool)(x:J),(Op.unary .not (.bool Q)).run prog x=.ok (.bool (!Q)) x:=λ_ _=>rfl;obtain⟨X,⟨rfl,V⟩|⟨F,t,T,rfl,ac,H⟩⟩:=hp
 ·obtain rfl:a=[]:=aG V;go_enter func42,ntmps42
  go_wp2;go_loopw [11] (λO wr=>O=.int .i64 0/\wr=x) (λ_ _=>0)
  case atStart=>exact⟨rfl,rfl⟩
  case round=>
   obtain⟨rfl,b⟩:=hrel;subst wr;go_wp2;go_ret;exact⟨rfl,I.refl _ _⟩
 ·have D:F<x.heap.size:=L F rfl;have A:=Z H;have R:=Z N;clear H X L N;by_cases G:8<a.length
  ·have C:=Z (show eB a=2 by unfold eB;rw[dr G]);have U:(8:Int)<(a.length:Int):=by omega
   go_enter func42,ntmps42
   go_wp2;go_ret;exact⟨by rw[Y C];rfl,I.refl _ _⟩
  ·have C:=Z (show eB a=jo a by unfold eB;rw[dd G]);have U:¬(8:Int)<(a.length:Int):=by omega
   go_enter func42,ntmps42
   go_wp2;go_loopw [11] (λO wr=>∃n:Nat,n<=a.length/\O=.int .i64 n/\eB a=jo (a.drop n)/\I (λ_=>False) x wr) (λO _=>a.length-(intOf O).toNat)
   case atStart=>exact⟨0,aU _,rfl,Y C,I.refl _ _⟩
   case round=>
    obtain⟨n,hn,rfl,z,g⟩:=hrel;have B:=Z z;by_cases e:n<a.length
    ·have y:=iO a n e;have p:wr.cell? ⟨F,t+n*3,none⟩=some (.string a[n].key):=g.cell ((Y A) _ _ y.1) id D;have q:wr.cell? ⟨F,t+n*3+1,none⟩=some (.string a[n].val):=g.cell (by rw[aP];exact(Y A) _ _ y.2.1) id D;have r:wr.cell? ⟨F,t+n*3+2,none⟩=some (.bool a[n].del):=g.cell (by rw[aP];exact(Y A) _ _ y.2.2) id D;have c:=(Y R) _ (au e);have h:=Z g;clear y z g;by_cases v:a[n].key.size=0\/8<a[n].key.size
     ·have m:=Z ((Y B).trans (xC e v));generalize a[n]=P at*;obtain⟨o,u,E⟩:=P;simp only at p q r v c;have i:∀W,Calls prog 63 #[.string o] W λl d=>l=.returned (.bool false)/\d=W:=by
       intro W;refine(mX o W c.1).mono ?_;rintro l d⟨rfl,rfl⟩;exact⟨mj (by simp;omega),rfl⟩
      go_wp2_with fail
      refine(i _).mono ?_;rintro l k⟨rfl,j⟩;subst k;go_wp2;go_ret;exact⟨by rw[Y m];rfl,(Y h).alloc _⟩
     ·by_cases b:a[n].del=false/\16<a[n].val.size
      ·have m:=Z ((Y B).trans (xB e v b));generalize a[n]=P at*;obtain⟨o,u,E⟩:=P;simp only at p q r v b c;obtain⟨rfl,w⟩:=b;have i:∀W,Calls prog 63 #[.string o] W λl d=>l=.returned (.bool true)/\d=W:=by
        intro W;refine(mX o W c.1).mono ?_;rintro l d⟨rfl,rfl⟩;exact⟨mj (by simp;omega),rfl⟩
       have s:∀W,Calls prog 64 #[.string u] W λl d=>l=.returned (.bool false)/\d=W:=by
        intro W;refine(td u W c.2).mono ?_;rintro l d⟨rfl,rfl⟩;exact⟨mj (by simp;omega),rfl⟩
       go_wp2_with fail
       refine(i _).mono ?_;rintro l k⟨rfl,j⟩;subst k;go_wp2_with fail
       refine(s _).mono ?_;rintro l k⟨rfl,j⟩;subst k;go_wp2;go_ret;exact⟨by rw[Y m];rfl,(Y h).alloc _⟩
      ·have m:=Z ((Y B).trans (zJ e v b));generalize a[n]=P at*;obtain⟨o,u,E⟩:=P;simp only at p q r v b c;have i:∀W,Calls prog 63 #[.string o] W λl d=>l=.returned (.bool true)/\d=W:=by
        intro W;refine(mX o W c.1).mono ?_;rintro l d⟨rfl,rfl⟩;exact⟨mj (by simp;omega),rfl⟩
       cases E with
       |true=>
        clear b;go_wp2_with fail
        refine(i _).mono ?_;rintro l k⟨rfl,j⟩;subst k;go_wp2;go_roundw;case rel=>exact⟨n+1,e,by go_num,Y m,(Y h).alloc _⟩
        case measure=>simp[intOf];omega
       |false=>
        have w:u.size<=16:=by simp at b;omega
        have s:∀W,Calls prog 64 #[.string u] W λl d=>l=.returned (.bool true)/\d=W:=by
         intro W;refine(td u W c.2).mono ?_;rintro l d⟨rfl,rfl⟩;exact⟨mj (by simp;omega),rfl⟩
        clear b;go_wp2_with fail
        refine(i _).mono ?_;rintro l k⟨rfl,j⟩;subst k;go_wp2_with fail
        refine(s _).mono ?_;rintro l k⟨rfl,j⟩;subst k;go_wp2;go_roundw;case rel=>exact⟨n+1,e,by go_num,Y m,(Y h).alloc _⟩
        case measure=>simp[intOf];omega
    ·have b:n=a.length:=by omega
     have m:=Z (show eB a=0 by rw[z,b,eJ];rfl);have h:=Z g;have c:¬(n:Int)<(a.length:Int):=by omega
     clear z g b;go_wp2;go_ret;exact⟨by rw[Y m];rfl,Y h⟩
structure SR where
 aH:Nat
 mem:Int
 dw:Int
 closed:Bool
 memory:M
 fF:Nat
 aO:Nat
 l0:M
 l1:M
 l2:M
 l3:M
 next:Nat
 log:Nat
 bQ:Bool
 rq:Bool
 gT:Bool
 ga:Bool
def SR.cells(s:SR)(k:Int):Array M:=#[.int .i32 k,.int .u32 0,.pointer (some ⟨s.aH,0,none⟩),.int .i64 s.mem,.int .i64 s.dw,.bool s.closed,.nilIface,s.memory,.int .i64 s.fF,.int .u64 s.aO,s.l0,s.l1,s.l2,s.l3,.int .u64 s.next,.int .u64 s.log,.bool s.bQ,.bool s.rq,.bool s.gT,.bool s.ga]
def bX(w:J)(sb:Nat)(s:SR)(k:Int):Prop:=w.heap[sb]?=some (.cells (s.cells k) 109 (0,0))
def bX.cell{w:J}{sb:Nat}{s:SR}{k:Int}(h:bX w sb s k){i:Nat}{v:M}(a:(s.cells k)[i]?=some v):w.cell? ⟨sb,i,none⟩=some v:=by
 rw[aj h];exact a
def bX.free{w:J}{sb i:Nat}{s:SR}{k:Int}(h:bX w sb s k):w.frozen? ⟨sb,i,none⟩=false:=cG h
def bX.ay{S:Nat->Prop}{w w':J}{sb:Nat}{s:SR}{k:Int}(h:bX w sb s k)(d:I S w w')(a:¬S sb):bX w' sb s k:=(d.block sb (ak h) a).trans h
def jC(w:J)(sb:Nat)(s:SR)(k:Int)(h:bX w sb s k):Calls prog 41 #[.pointer (some ⟨sb,0,none⟩)] w λe a=>e=.returned (kr (if s.closed then 6 else 0))/\a=w:=by
 have c5:w.cell? ⟨sb,5,none⟩=some (.bool s.closed):=h.cell rfl;have b:w.cell? ⟨sb,6,none⟩=some .nilIface:=h.cell rfl;cases hc:s.closed with
 |true=>
  rw[hc]at c5;clear h hc;go_enter func41,ntmps41
  go_wp2;go_ret;exact⟨rfl,rfl⟩
 |false=>
  rw[hc]at c5;clear h hc;go_enter func41,ntmps41
  go_wp2;go_ret;exact⟨rfl,rfl⟩
def qR(dw:Int)(i n:Nat):Bool:=if i=0 then decide (dw<=(n:Int))else decide (i<3)&&decide (dw<(n:Int))
def nF(w:J)(sb:Nat)(s:SR)(k:Int)(i n:Nat)(x:Option Addr)(c:Nat)(h:bX w sb s k)(d:i<4):Calls prog 86 #[.pointer (some ⟨sb,0,none⟩),.int .i64 i,.slice x n c] w λe b=>e=.returned (.bool (qR s.dw i n))/\b=w:=by
 have c4:w.cell? ⟨sb,4,none⟩=some (.int .i64 s.dw):=h.cell rfl;generalize s.dw=dw at*;clear h;have a:i=0\/i=1\/i=2\/i=3:=by omega
 rcases a with rfl|rfl|rfl|rfl
 ·go_enter func86,ntmps86
  go_wp2;go_ret;exact⟨rfl,rfl⟩
 ·go_enter func86,ntmps86
  go_wp2;go_ret;exact⟨rfl,rfl⟩
 ·go_enter func86,ntmps86
  go_wp2;go_ret;exact⟨rfl,rfl⟩
 ·go_enter func86,ntmps86
  go_wp2;go_ret;exact⟨rfl,rfl⟩
def Li(c:M)(a dw:Int)(w:J)(d:∃p,c=.pointer p)(h:¬(1<=a/\a<=32/\2<=dw/\dw<=6)):Calls prog 26 #[c,.agg #[.int .i64 a,.int .i64 dw]] w λf e=>f=.returned (.tuple #[.pointer none,kr 1])/\I (λ_=>False) w e:=by
 obtain⟨p,rfl⟩:=d;have b:=Z (show I (λ_=>False) w (w.alloc (.cells #[.int .i64 a,.int .i64 dw] 78))from(I.refl (λ_=>False) w).alloc _);unfold kr;simp only[Int.reduceEq,ji];by_cases g:a<1
 ·clear h;go_enter func26,ntmps26
  go_wp2;go_ret2
  exact⟨rfl,Y b⟩
 by_cases i:32<a
 ·clear h;go_enter func26,ntmps26
  go_wp2;go_ret2
  exact⟨rfl,Y b⟩
 by_cases j:dw<2
 ·clear h;go_enter func26,ntmps26
  go_wp2;go_ret2
  exact⟨rfl,Y b⟩
 have k:6<dw:=by omega
 clear h;go_enter func26,ntmps26
 go_wp2;go_ret2
 exact⟨rfl,Y b⟩
def SR.fresh(b:Nat)(a dw:Int):SR:=⟨b,a,dw,false,.slice none 0 0,0,0,.slice none 0 0,.slice none 0 0,.slice none 0 0,.slice none 0 0,0,0,false,false,false,false⟩
def BA(sb:Nat):Array M:=#[.func (.func 51) #[.pointer (some ⟨sb,0,none⟩)] #[],.func (.func 52) #[.pointer (some ⟨sb,0,none⟩)] #[],.func (.func 53) #[.pointer (some ⟨sb,0,none⟩)] #[],.func (.func 54) #[.pointer (some ⟨sb,0,none⟩)] #[]]
def Np(r:Nat)(d dw:Int)(w:J)(R:1<=d/\d<=32/\2<=dw/\dw<=6)(q v x y z:J->Prop)(p:∀W,I (λ_=>False) w W->bX W (w.heap.size+1) (SR.fresh r d dw) 0->W.heap.size=w.heap.size+3->q W)(C:∀W,q W->Calls prog 51 #[.pointer (some ⟨w.heap.size+1,0,none⟩)] W λo j=>o=.returned .nilIface/\v j/\j.heap[w.heap.size+2]?=W.heap[w.heap.size+2]?)(D:∀W,v W->Calls prog 52 #[.pointer (some ⟨w.heap.size+1,0,none⟩)] W λo j=>o=.returned .nilIface/\x j/\j.heap[w.heap.size+2]?=W.heap[w.heap.size+2]?)(E:∀W,x W->Calls prog 53 #[.pointer (some ⟨w.heap.size+1,0,none⟩)] W λo j=>o=.returned .nilIface/\y j/\j.heap[w.heap.size+2]?=W.heap[w.heap.size+2]?)(F:∀W,y W->Calls prog 54 #[.pointer (some ⟨w.heap.size+1,0,none⟩)] W λo j=>o=.returned .nilIface/\z j/\j.heap[w.heap.size+2]?=W.heap[w.heap.size+2]?):Calls prog 26 #[.pointer (some ⟨r,0,none⟩),.agg #[.int .i64 d,.int .i64 dw]] w λo j=>o=.returned (.tuple #[.pointer (some ⟨w.heap.size+1,0,none⟩),.nilIface])/\z j:=by
 obtain⟨S,U,V,X⟩:=R;have e1:¬d<1:=by omega
 have e2:¬32<d:=by omega
 have e3:¬dw<2:=by omega
 have e4:¬6<dw:=by omega
 have N:∀a w,(callFunc 51 a).run prog w=.ok (.enter 51 a) w:=enters_of func51 (by kernel_rfl) rfl;have O:∀a w,(callFunc 52 a).run prog w=.ok (.enter 52 a) w:=enters_of func52 (by kernel_rfl) rfl;have P:∀a w,(callFunc 53 a).run prog w=.ok (.enter 53 a) w:=enters_of func53 (by kernel_rfl) rfl;have Q:∀a w,(callFunc 54 a).run prog w=.ok (.enter 54 a) w:=enters_of func54 (by kernel_rfl) rfl;have B:=Z (show q (((w.alloc (.cells #[.int .i64 d,.int .i64 dw] 78)).alloc (.cells ((SR.fresh r d dw).cells 0) 109)).alloc (.cells (BA (w.heap.size+1)) 64))/\(((w.alloc (.cells #[.int .i64 d,.int .i64 dw] 78)).alloc (.cells ((SR.fresh r d dw).cells 0) 109)).alloc (.cells (BA (w.heap.size+1)) 64)).heap[w.heap.size+2]?=some (.cells (BA (w.heap.size+1)) 64 (0,0))from⟨p _ ((((I.refl (λ_=>False) w).alloc _).alloc _).alloc _) ((dL _ (by simp)).trans (az _ (by simp))) (by simp),az _ (by simp)⟩);have G:=Z C;have H:=Z D;have K:=Z E;have L:=Z F;clear S U V X p C D E F;go_enter func26,ntmps26
 go_wp2;go_loopw [43] (λi wr=>∃(t:Nat),t<=4/\i=.int .i64 t/\((t=0/\q wr)\/(t=1/\v wr)\/(t=2/\x wr)\/(t=3/\y wr)\/(t=4/\z wr))/\wr.heap[w.heap.size+2]?=some (.cells (BA (w.heap.size+1)) 64 (0,0))) (λi _=>4-(intOf i).toNat)
 case atStart=>exact⟨0,by omega,by go_num,.inl ⟨rfl,(Y B).1⟩,(Y B).2⟩
 case round=>
  obtain⟨t,hj,rfl,e,i⟩:=hrel;have f0:wr.cell? ⟨w.heap.size+1+1,0,none⟩=some (.func (.func 51) #[.pointer (some ⟨w.heap.size+1,0,none⟩)] #[]):=by rw[aj i];rfl
  have f1:wr.cell? ⟨w.heap.size+1+1,1,none⟩=some (.func (.func 52) #[.pointer (some ⟨w.heap.size+1,0,none⟩)] #[]):=by rw[aj i];rfl
  have f2:wr.cell? ⟨w.heap.size+1+1,2,none⟩=some (.func (.func 53) #[.pointer (some ⟨w.heap.size+1,0,none⟩)] #[]):=by rw[aj i];rfl
  have f3:wr.cell? ⟨w.heap.size+1+1,3,none⟩=some (.func (.func 54) #[.pointer (some ⟨w.heap.size+1,0,none⟩)] #[]):=by rw[aj i];rfl
  have k:=Z i;clear i;rcases e with⟨rfl,e⟩|⟨rfl,e⟩|⟨rfl,e⟩|⟨rfl,e⟩|⟨rfl,e⟩
  ·have n:=(Y G) wr e;clear e;go_wp2_with(go_at_fn 51;refine n.mono ?_;rintro o A⟨rfl,b,c⟩;have h:=Z b;have g:=Z (c.trans (Y k));clear b c)
   go_roundw;case rel=>exact⟨1,by omega,by go_num,.inr (.inl ⟨rfl,Y h⟩),Y g⟩
   case measure=>simp[intOf]
  ·have n:=(Y H) wr e;clear e;go_wp2_with(go_at_fn 52;refine n.mono ?_;rintro o A⟨rfl,b,c⟩;have h:=Z b;have g:=Z (c.trans (Y k));clear b c)
   go_roundw;case rel=>exact⟨2,by omega,by go_num,.inr (.inr (.inl ⟨rfl,Y h⟩)),Y g⟩
   case measure=>simp[intOf]
  ·have n:=(Y K) wr e;clear e;go_wp2_with(go_at_fn 53;refine n.mono ?_;rintro o A⟨rfl,b,c⟩;have h:=Z b;have g:=Z (c.trans (Y k));clear b c)
   go_roundw;case rel=>exact⟨3,by omega,by go_num,.inr (.inr (.inr (.inl ⟨rfl,Y h⟩))),Y g⟩
   case measure=>simp[intOf]
  ·have n:=(Y L) wr e;clear e;go_wp2_with(go_at_fn 54;refine n.mono ?_;rintro o A⟨rfl,b,c⟩;have h:=Z b;have g:=Z (c.trans (Y k));clear b c)
   go_roundw;case rel=>exact⟨4,by omega,by go_num,.inr (.inr (.inr (.inr (⟨rfl,Y h⟩)))),Y g⟩
   case measure=>simp[intOf]
  ·have u:=Z e;clear e;go_wp2;go_ret2
   exact⟨rfl,Y u⟩
end Go.Proofs.YtophdnlmpfmeiaaGreatDoor
