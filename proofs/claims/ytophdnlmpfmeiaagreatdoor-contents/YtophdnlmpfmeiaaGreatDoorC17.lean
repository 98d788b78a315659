import Derived.Laws.CopyRow
import Derived.Laws.NewBlocks
import Derived.Lib.AppendZerosOnto
import Derived.Lib.Overlaps
import Derived.Shelf.RegionOpenPlain
import Derived.Test.YtophdnlmpfmeiaaGreatDoorC14
namespace Go.Proofs.YtophdnlmpfmeiaaGreatDoor
open ChangeShapes WideShapes RowKit Proofs.Tryz
set_option maxHeartbeats 16000000
set_option linter.all false
set_option maxRecDepth 100000
def np{P:Program}(w:J)(m z A c:TypeId)(f p o b h:Nat)(q:Addr)(d k:Nat)(a:Array M)(C:TypeId)(g:List M)(y:P.underlying m=some (.slice c))(n:(P.info? c).map (·.size)=some f)(s:w.heap[p]?=some (.cells a C (0,0)))(x:g.length=Nat.min d b*f)(j:∀B v,g[B]?=some v->w.cell? (q.add B)=some v)(i:o+g.length<=a.size)(r:∀v∈g,v.oneCell'=true):(Builtin.copy_ #[m,z] A #[.slice (some ⟨p,o,none⟩) b h,.slice (some q) d k]).run P w=.ok (goInt (Nat.min d b)) (w.setRow p (a.toList.take o++g++a.toList.drop (o+g.length)).toArray):=by
 have u:=run_loadCells_list (P:=P) w q g j;have l:=run_storeCells_at P p o C g 0 a w s (by simpa using i) r;cases hq:P.info? c with
 |none=>simp[hq]at n
 |some D=>
  have t:D.size=f:=by simpa[hq]using n
  simp[Builtin.copy_,er y,Builtin.lenOf,Builtin.firstCells,sizeOf,typeInfo,hq,t,<-x,u,l]
def wM(w:J)(g:Nat)(a:Array M):I (λk=>k=g) w (w.setRow g a):=⟨rfl,rfl,rfl,by simp,λk _ b=>nW w g k a b⟩
def LJ{n i:Nat}{a b c:List M}(k:a.take (n*4)=b)(l:b.length=n*4)(m:i<=n)(j:c.length=4)(d:(n+1)*4<=a.length):(((a.take ((i+1)*4)++b.drop (i*4)++a.drop ((i+1)*4+(b.drop (i*4)).length)).take (i*4)++c++(a.take ((i+1)*4)++b.drop (i*4)++a.drop ((i+1)*4+(b.drop (i*4)).length)).drop (i*4+c.length)).take ((n+1)*4))=b.take (i*4)++c++b.drop (i*4):=by
 have f:(a.take ((i+1)*4)).length=i*4+4:=by rw[cU];omega
 have g:(a.take ((i+1)*4)++b.drop (i*4)++a.drop ((i+1)*4+(b.drop (i*4)).length)).take (i*4)=b.take (i*4):=by
  rw[aV,fQ (by omega),List.take_take,<-k,List.take_take];congr 1;omega
 have h:(a.take ((i+1)*4)++b.drop (i*4)++a.drop ((i+1)*4+(b.drop (i*4)).length)).drop (i*4+c.length)=b.drop (i*4)++a.drop ((i+1)*4+(b.drop (i*4)).length):=by
  rw[aV,j,<-f,kg]
 rw[g,h,<-aV,lh (by simp;omega)]
def Oi(l:List E):∀u∈aF l,u.oneCell'=true:=by
 intro u a;induction l with
 |nil=>cases a
 |cons x r b=>
  rw[show x::r=[x]++r from rfl,eK,aw]at a;rcases a with a|a
  ·exact yT x u a
  ·exact b a
def GI(K:M)(l:List E)(w:J)(N:nT w K l)(O:l.length<=1000000000)(b:∀p,K.ownBlock=some p->p<w.heap.size):Calls prog 108 #[K] w λL t=>∃s,L=.returned s/\t.ownsRow w.heap.size 177 4 s l.length (aF l)/\Below w.heap.size w t:=by
 obtain⟨H,D,j,k,m⟩:=bK mY;obtain⟨q,⟨rfl,z⟩|⟨y,o,i,rfl,G,r⟩⟩:=N
 ·obtain rfl:l=[]:=aG z;have C:∀w:J,(binOp .eql 102 (.slice none 0 0) (.slice none 0 0)).run prog w=.ok (.bool true) w:=λ_=>rfl;go_enter func108,ntmps108
  go_wp2;go_ret;exact⟨_,rfl,bC _ _ _ _,Below.refl _ _⟩
 ·have A:y<w.heap.size:=b y rfl;have u:=Z r;have v:=Z q;have e:(w.alloc (.cells #[] 177)).ownsRow w.heap.size 177 4 (.slice (some ⟨w.heap.size,0,none⟩) 0 0) 0 []:=World.ownsRow_lit w #[] 0 (ai _) (by decide) rfl;have x:=Z e;have C:∀(w:J)a n c,(binOp .eql 102 (.slice (some a) n c) (.slice none 0 0)).run prog w=.ok (.bool false) w:=λ_ _ _ _=>rfl;clear b e r q;go_enter func108,ntmps108
  go_wp2_with(first
   |(at_builtin;refine aX _ rfl (.tmp 5) (.tmp 6) 102 rfl w.heap.size 177 H tQ 4 48 underlying102 D j k m rfl (by decide) _ 0 [] rfl (Y x) ⟨y,o,none⟩ l.length i (aF l) rfl (Y v) (λP Q F=>by rw[ct,dE A];exact(Y u) P Q F) (Oi l) (by omega) (by omega) (by simp) ?_;intro R T d f;have g:=Z d;have h:=Z f;clear d f))
  go_ret;refine⟨_,rfl,by simpa using Y g,?_⟩;have:=(Y h).below (B:=w.heap.size) (by simp) (by rintro p⟨⟩;exact ai _);exact⟨this.os,this.tape,this.output,aB (by simp) this.size,λp b=>(this.block p b).trans (Below.heap_alloc w _ p b)⟩
def vU{P:Program}{t c d e:TypeId}(b:P.underlying t=some (.slice e))(a:P.underlying c=some (.slice e))(x y:M)(w:J):(Builtin.append_ #[t,c] d #[x,y]).run P w=(Builtin.append_ #[t,t] d #[x,y]).run P w:=by
 cases x<;>try(simp[Builtin.append_,er b];done)
 cases hq:P.info? e<;>simp[Builtin.append_,er b,er a,sizeOf,typeInfo,hq]
def km{P:Program}(w:J){i:Array Oper}{d:List Oper}{y:Oper}{A:Act}{V:Exit->Act->J->Prop}(n:y.guard=none)(ac ad:Operand)(T z:TypeId)(N:y.op=.call {callee:=.builtin .append,args:=#[ac,ad],argTypes:=#[T,z]})(base:Nat)(s:TypeId)(v:TypeInfo)(U:M)(a bytes:Nat)(u:P.underlying T=some (.slice s))(p:P.underlying z=some (.slice s))(K:P.info? s=some v)(S:v.zero=some U)(g:v.size=a)(m:v.bytes=bytes)(q:U.cells.size=a)(o:0<a)(C:M)(x:Nat)(r:List M)(Q:A.eval ac=C)(h:w.ownsRow base s a C x r)(l:Addr)(t W:Nat)(b:List M)(R:A.eval ad=.slice (some l) t W)(L:b.length=t*a)(f:∀X B,b[X]?=some B->w.cell? (l.add X)=some B)(D:∀B∈b,B.oneCell'=true)(hn:x+t<=140737488355328)(c:(x+t)*bytes<=140737488355328)(e:base<=w.heap.size)(al:∀j k,k.ownsRow base s a j (x+t) (r++b)->du w k C j->wpList P i V d (A.put y.dst j) k):wpList P i V (y::d) A w:=by
 obtain⟨j,k,O,E,F,_,G⟩:=lP (P:=P) w base T y.type s v U a bytes u K S g m q o C x r h l t W b L f D (by unfold maxLen;omega) c e;refine iG n λan H=>?_;unfold Oper.wp;simp[execOp,N,resolve,invoke,builtin,Q,R,vU u p,O,Result.andThen];exact H _ _ (al j k E (du.of F G))
def Gg(w:J)(base:Nat)(G:M)(t:Nat)(j:List M)(x:E)(i:Nat)(k:w.ownsRow base 177 4 G t j)(n:base<=w.heap.size)(y:fX w i x)(K:t<=1000000000):Calls prog 110 #[G,.int .i64 t,.slice (some ⟨i,0,none⟩) 1 1] w λH A=>∃s,H=.returned s/\A.ownsRow base 177 4 s (t+1) (j++aF [x])/\du w A G s:=by
 obtain⟨r,p,f,g,h⟩:=bK mY;have u:∀v F,(aF [x])[v]?=some F->w.cell? ((⟨i,0,none⟩:Addr).add v)=some F:=by
  intro v F o;rw[ct,aj y,cw];simpa[aF,E.cells]using o
 have l:=Z u;have m:=Z k;clear u y;rcases k.2 with⟨rfl,rfl⟩|⟨L,e,C,rfl,_,_,D,q,_⟩
 ·clear k;go_enter func110,ntmps110
  go_wp2_with(at_builtin;refine km _ rfl (.tmp 23) (.tmp 24) 102 101 rfl base 177 r tQ 4 48 underlying102 underlying101 p f g h rfl (by decide) _ 0 j rfl (Y m) ⟨i,0,none⟩ 1 1 (aF [x]) rfl rfl (Y l) (yT x) (by omega) (by omega) n ?_;intro z B a b;have c:=Z a;have d:=Z b;clear a b)
  go_ret;exact⟨_,rfl,by simpa using Y c,Y d⟩
 ·clear k;have v:e<=9223372036854775807:=by unfold maxLen at q;omega
  by_cases o:e=t
  ·subst o;go_enter func110,ntmps110
   go_wp2_with(at_builtin;refine km _ rfl (.tmp 23) (.tmp 24) 102 101 rfl base 177 r tQ 4 48 underlying102 underlying101 p f g h rfl (by decide) _ e j rfl (Y m) ⟨i,0,none⟩ 1 1 (aF [x]) rfl rfl (Y l) (yT x) (by omega) (by omega) n ?_;intro z B a b;have c:=Z a;have d:=Z b;clear a b)
   go_ret;exact⟨_,rfl,Y c,Y d⟩
  ·go_enter func110,ntmps110
   go_wp2_with(at_builtin;refine km _ rfl (.tmp 23) (.tmp 24) 102 101 rfl base 177 r tQ 4 48 underlying102 underlying101 p f g h rfl (by decide) _ t j rfl (Y m) ⟨i,0,none⟩ 1 1 (aF [x]) rfl rfl (Y l) (yT x) (by omega) (by omega) n ?_;intro z B a b;have c:=Z a;have d:=Z b;clear a b)
   go_ret;exact⟨_,rfl,Y c,Y d⟩
section
open Go.Shelf
def xJ{P:Program}(w:J){b:Array Oper}{a:List Oper}{o:Oper}{h:Act}{Q:Exit->Act->J->Prop}(c:o.guard=none)(n s:Operand)(t d:TypeId)(k:o.op=.call {callee:=.builtin .copy,args:=#[n,s],argTypes:=#[t,d]})(v u:M)(j:h.eval n=v)(m:h.eval s=u){f:M}{g:J}(l:(Builtin.copy_ #[t,d] o.type #[v,u]).run P w=.ok f g)(p:wpList P b Q a (h.put o.dst f) g):wpList P b Q (o::a) h w:=iG c λK i=>by
 unfold Oper.wp execOp;simp only[k,resolve,invoke,builtin,iH,lS,ir,qx,aY,df,j,m,l];exact i _ _ p
def tZ{P:Program}{a:Array Oper}{o:Oper}{c:Act}{w:J}{K:Act->J->Prop}{Q:Exit->Act->J->Prop}{F:Prop}(k:o.guard=none)(p x:Operand)(d f:TypeId)(b:o.op=Op.call {callee:=Callee.builtin Builtin.copy,args:=#[p,x],argTypes:=#[d,f]})(v u:M)(j:c.eval p=v)(n:c.eval x=u){g:M}{h:J}(l:(Builtin.copy_ #[d,f] o.type #[v,u]).run P w=.ok g h)(i:K (c.put o.dst g) h):if Region.wanted o (yielded a c.tmps)=true then Oper.wp P o c w K Q else F:=by
 have m:Region.wanted o (yielded a c.tmps)=true:=by simp[Region.wanted,k]
 rw[dr m];unfold Oper.wp;simp[execOp,b,resolve,invoke,builtin,j,n,l,Result.andThen];exact i
def Iq(w:J):(Go.sizeOf 177).run prog w=.ok 4 w:=by kernel_rfl
def oW{w:J}{n:Nat}{e:TypeId}{g:Nat}{c:List M}{a:Array M}(d:w.heap[g]?=some (.cells a e (0,0)))(f:a.toList.take (n*4)=c)(j:Nat)(u:M)(o:Nat)(b:(c.drop o)[j]?=some u):w.cell? ⟨g,o+j,none⟩=some u:=by
 rw[aj d];rw[jG,<-f,jF]at b;split at b
 ·simpa using b
 ·cases b
def Ca(w:J)(base g b n i:Nat)(h:Array M)(j:List M)(H:E)(k:Nat)(F:base<=g)(K:w.heap[g]?=some (.cells h 177 (0,0)))(A:n+1<=b)(P:b<=9223372036854775807)(D:h.size=b*4)(m:h.toList.take (n*4)=j)(p:fX w k H)(s:k≠g)(hi:i<n)(hn:n<=1000000000)(T:∀S∈j,S.oneCell'=true):Calls prog 110 #[.slice (some ⟨g,0,none⟩) n b,.int .i64 i,.slice (some ⟨k,0,none⟩) 1 1] w λe V=>e=.returned (.slice (some ⟨g,0,none⟩) (n+1) b)/\V.ownsRow base 177 4 (.slice (some ⟨g,0,none⟩) (n+1) b) (n+1) (j.take (i*4)++aF [H]++j.drop (i*4))/\I (λX=>X=g) w V:=by
 have v:j.length=n*4:=by rw[<-m,cU,gM];omega
 have Q:∀R o,(callFunc 165 #[.slice (some ⟨k,0,none⟩) 1 1,.slice (some ⟨g,(i+1)*4,none⟩) R o]).run prog w=.ok (.value (.bool false)) w:=λR o=>by
  rw[di func165 (by kernel_rfl) (by kernel_rfl) (by kernel_rfl) (e:=Extern.SlicesOverlaps.overlaps #[101,101] #[4]) (by kernel_rfl),Lib.run_overlaps_apart w 101 4 177 underlying101 4 Iq ⟨k,0,none⟩ ⟨g,(i+1)*4,none⟩ 1 1 R o s _ _ 4 (b*4) (by unfold fX at p;simp[World.shape?,p];rfl) (by simp[World.shape?,K,D];rfl) (by omega) (by unfold fX at p;simp[World.frozen?,p]) (by unfold fX at p;simp[World.frozen?,p])];rfl
 have t:(prog.info? 177).map (·.size)=some 4:=by kernel_rfl
 have u:(j.drop (i*4)).length=(n-i)*4:=by rw[fE,v];omega
 obtain⟨a,f⟩:∃a,a=(h.toList.take ((i+1)*4)++j.drop (i*4)++h.toList.drop ((i+1)*4+(j.drop (i*4)).length)):=⟨_,rfl⟩;have N:a.length=b*4:=by rw[f];simp only[ag,cU,fE,gM]at u|-;omega
 have B:∀x q o,(Builtin.copy_ #[102,102] x #[.slice (some ⟨g,(i+1)*4,none⟩) (n-i) q,.slice (some ⟨g,i*4,none⟩) (n+1-i) o]).run prog w.drew=.ok (goInt (Nat.min (n+1-i) (n-i))) (w.drew.setRow g a.toArray):=λx q o=>by
  rw[f];refine np w.drew _ _ x 177 4 g ((i+1)*4) _ q ⟨g,i*4,none⟩ _ o h _ (j.drop (i*4)) underlying102 t K ?_ (λbd S O=>by rw[ct];exact oW K m bd S _ O) (by omega) (λS R=>T S (cg R));rw[u];simp only[sD];split<;>omega
 have r:(w.drew.setRow g a.toArray).heap[g]?=some (.cells a.toArray 177 (0,0)):=sw _ _ _ _ _ _ K;obtain⟨c,d⟩:∃c,c=(a.take (i*4)++aF [H]++a.drop (i*4+(aF [H]).length)):=⟨_,rfl⟩;have l:(aF [H]).length=4:=rfl;have G:fX (w.drew.setRow g a.toArray) k H:=(nW w.drew g k _ s).trans p;have C:∀(W:J),W.heap=(w.drew.setRow g a.toArray).heap->∀x q,(Builtin.copy_ #[102,101] x #[.slice (some ⟨g,i*4,none⟩) (n+1-i) q,.slice (some ⟨k,0,none⟩) 1 1]).run prog W=.ok (goInt (Nat.min 1 (n+1-i))) (W.setRow g c.toArray):=λW y x q=>by
  rw[d];refine np W _ _ x 177 4 g (i*4) _ q ⟨k,0,none⟩ _ 1 a.toArray _ (aF [H]) underlying102 t (by rw[y];exact r) ?_ (λbd S O=>?_) (by simp;omega) (yT H)
  ·rw[l];simp only[sD];split<;>omega
  ·rw[ct,aj (show fX W k H by unfold fX;rw[y];exact G),cw];simpa[aF,E.cells]using O
 have bc:¬((i:Int)=(n:Int)):=by omega
 have ba:IntKind.i64.wrap ((i:Int)+1)=(i:Int)+1:=by rw[bu];omega
 have bb:IntKind.i64.wrap ((n:Int)+1)=(n:Int)+1:=by rw[bu];omega
 have ax:((i:Int)+1).toNat=i+1:=by omega
 have U:((n:Int)+1).toNat=n+1:=by omega
 have al:(0:Int)<=(i:Int)+1:=by omega
 have ao:i<=n:=by omega
 have an:(i:Int)<=(n:Int)+1:=by omega
 have ac:¬(b=i):=by omega
 have ad:¬(b=i+1):=by omega
 have L:prog.follows .mixedOrders=true:=by kernel_rfl
 have z:=Z (show∀W:J,W.heap=(w.drew.setRow g a.toArray).heap->W.os=w.os->W.tape=w.tape->W.output=w.output->(W.setRow g c.toArray).ownsRow base 177 4 (.slice (some ⟨g,0,none⟩) (n+1) b) (n+1) (j.take (i*4)++aF [H]++j.drop (i*4))/\I (λX=>X=g) w (W.setRow g c.toArray)from by
  intro W y R e2 e3;refine⟨⟨by simp[l];omega,.inr ⟨g,b,c.toArray,rfl,F,sw _ _ _ _ _ _ (by rw[y];exact r),A,P,?_,?_⟩⟩,⟨R,e2,e3,?_,?_⟩⟩
  ·rw[d];simp[l];omega
  ·rw[List.toList_toArray,d,f];exact LJ m v (by omega) rfl (by simp;omega)
  ·rw[setRow_size,y,setRow_size];exact ai _
  ·intro X hk o;rw[nW _ _ _ _ o,y,nW _ _ _ _ o];rfl)
 clear N u f d l G r v T m D t p s F;go_enter func110,ntmps110
 go_wp2_with(simp only[Q])
 go_region_law_o (refine tZ rfl _ _ 102 102 rfl _ _ (by simp[Act.eval,Act.put]) (by simp[Act.eval,Act.put]) (B _ _ _) ?_)
 go_wp2_with(at_builtin;refine xJ _ rfl _ _ 102 101 rfl _ _ rfl rfl (C _ rfl _ _) ?_)
 go_ret;exact⟨rfl,(Y z) _ rfl rfl rfl rfl⟩
end
structure Acc(S:Nat->Prop)(a:J)(b:List (Nat×M×TypeId))(lb:Nat)(d f:TypeId)(e base n:Nat)(g:List M)(B:Nat->Prop)(W:J):Prop where
 fix:∀p∈b,dY W p.1 p.2.1 p.2.2
 row:∃v,dY W lb v d/\W.ownsRow base f e v n g/\(∀k,B k↔(∃p∈b,p.1=k)\/k=lb\/v.ownBlock=some k)
 PU:∀p∈b,a.heap.size<=p.1/\p.1<base/\p.1≠lb
 PT:a.heap.size<=lb/\lb<base
 ay:I S a W
section
variable{S:Nat->Prop}{a W:J}{b:List (Nat×M×TypeId)}{lb:Nat}{d f:TypeId}{e base n:Nat}{g:List M}{B:Nat->Prop}
theorem Acc.lt(o:Acc S a b lb d f e base n g B W):∀k,B k->a.heap.size<=k/\k<W.heap.size:=by
 intro k A;obtain⟨v,r,y,z⟩:=o.row;have:=o.PT;rcases(z k).1 A with⟨p,h,c⟩|c|c
 ·subst c;exact⟨(o.PU p h).1,ak (o.fix p h)⟩
 ·subst c;exact⟨by omega,ak r⟩
 ·have:=y.lt k c;exact⟨by omega,this.2⟩
theorem Acc.stays{r:J}{T:Nat->Prop}(q:Acc S a b lb d f e base n g B W)(j:I T W r)(h:∀k,T k->¬B k/\(S k\/a.heap.size<=k)):Acc S a b lb d f e base n g B r:=by
 obtain⟨v,t,u,c⟩:=q.row;exact⟨λy p=>(j.block _ (ak (q.fix y p)) (λs=>(h _ s).1 ((c _).2 (.inl ⟨y,p,rfl⟩)))).trans (q.fix y p),⟨v,(j.block _ (ak t) (λs=>(h _ s).1 ((c _).2 (.inr (.inl rfl))))).trans t,j.own u (λk o s=>(h k s).1 ((c k).2 (.inr (.inr o)))),c⟩,q.PU,q.PT,q.ay.trans j (λk o=>(h k o).2)⟩
theorem Acc.more{h:J}{v c:M}{H:Nat}{u:List M}(z:Acc S a b lb d f e base n g B W)(G:dY W lb v d)(p:∀k,B k↔(∃y∈b,y.1=k)\/k=lb\/v.ownBlock=some k)(P:W.ownsRow base f e v n g)(E:I (λk=>v.ownBlock=some k) W h)(A:c.ownBlock=v.ownBlock\/∃L,c.ownBlock=some L/\W.heap.size<=L)(q:h.ownsRow base f e c H u):∃F,Acc S a b lb d f e base H u F (h.setCell ⟨lb,0,none⟩ c)/\I B W (h.setCell ⟨lb,0,none⟩ c)/\(∀k,F k->B k\/W.heap.size<=k):=by
 have s:∀k,v.ownBlock=some k->base<=k/\k<W.heap.size:=λk j=>P.lt k j;have t:∀k,c.ownBlock=some k->base<=k:=λk j=>(q.lt k j).1;have O:=z.PT;have D:dY h lb v d:=(E.block _ (ak G) (λo=>by have:=(s _ o).1;omega)).trans G;have r:I B W (h.setCell ⟨lb,0,none⟩ c):=(E.mono (T:=B) (λk j=>.inl ((p k).2 (.inr (.inr j))))).setCell _ _ _ (.inl ((p _).2 (.inr (.inl rfl))));refine⟨λk=>(∃y∈b,y.1=k)\/k=lb\/c.ownBlock=some k,⟨λy C=>?_,⟨c,D.set _,?_,λk=>nZ⟩,z.PU,z.PT,?_⟩,r,?_⟩
 ·obtain⟨R,U,N⟩:=z.PU y C;have K:dY h y.1 y.2.1 y.2.2:=(E.block _ (ak (z.fix y C)) (λo=>by have:=(s _ o).1;omega)).trans (z.fix y C);exact K.other _ N
 ·exact q.kept (co h _ _ _) (by right;intro o;have:=t _ o;omega)
 ·exact z.ay.trans r (λk j=>.inr (z.lt k j).1)
 ·rintro k(o|o|o)
  ·exact .inl ((p k).2 (.inl o))
  ·exact .inl ((p k).2 (.inr (.inl o)))
  ·rcases A with K|⟨L,K,N⟩
   ·exact .inl ((p k).2 (.inr (.inr (K.symm.trans o))))
   ·rw[K]at o;cases o;exact .inr N
end
end Go.Proofs.YtophdnlmpfmeiaaGreatDoor
