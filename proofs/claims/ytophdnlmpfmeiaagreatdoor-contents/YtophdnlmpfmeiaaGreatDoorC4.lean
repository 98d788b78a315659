import Derived.Laws.Entries
import Derived.MapKept
import Derived.Maps.RangeWalk
import Derived.OwnWalk
import Derived.Test.YtophdnlmpfmeiaaGreatDoorChecked
import Derived.Test.YtophdnlmpfmeiaaGreatDoorC0
namespace Go.Proofs.YtophdnlmpfmeiaaGreatDoor
open ChangeShapes WideShapes RowKit Proofs.Tryz
set_option maxHeartbeats 16000000
set_option linter.all false
set_option maxRecDepth 100000
def Cz(a b:aa):(a==b)=decide (a=b):=by
 obtain⟨x⟩:=a;obtain⟨y⟩:=b;show(x==y)=_;by_cases h:x=y
 ·simp[h]
 ·simp[h]
abbrev dA:=List (aa×M)
def dA.get(m:dA)(k:aa):Option M:=match m with
 |[]=>none
 |p::r=>if p.1=k then some p.2 else dA.get r k
def Fits(a:List MapEntry)(m:dA):Prop:=a.map (λe=>(e.key,e.val))=m.map (λp=>(Value.string p.1,p.2))
def Fits.nil:Fits [] []:=rfl
def Fits.cons_inv{e:MapEntry}{a:List MapEntry}{m:dA}(h:Fits (e::a) m):∃p r,m=p::r/\e.key=.string p.1/\e.val=p.2/\Fits a r:=by
 cases m with
 |nil=>simp[Fits]at h
 |cons p r=>
  simp[Fits]at h;exact⟨p,r,rfl,h.1.1,h.1.2,h.2⟩
def Ch(k:aa):∀(a:List MapEntry)(m:dA)(i:Nat),Fits a m->∃l,Instr.findNow .string (.string k) a i=some ((m.get k).map λv=>(l,v)):=by
 intro a;induction a with
 |nil=>
  intro m i h;obtain rfl:m=[]:=by simpa[Fits]using h
  exact⟨0,rfl⟩
 |cons n a j=>
  intro m i h;obtain⟨p,r,rfl,d,g,f⟩:=h.cons_inv;by_cases c:p.1=k
  ·refine⟨i,?_⟩;simp[Instr.findNow,Instr.sameNow,d,dA.get,c,g,Cz]
  ·obtain⟨l,e⟩:=j r (i+1) f;refine⟨l,?_⟩;have b:(k==p.1)=false:=by rw[Cz];simpa usingλn:k=p.1=>c n.symm
   simp[Instr.findNow,Instr.sameNow,d,dA.get,c,b,e]
def eC(w:J)(d:Nat)(m:dA):Prop:=∃c b,w.heap[d]?=some (.map c b)/\Fits c.toList m/\MapKept.Stamped c b
def pL{P:Program}{w:J}{mt j g l:Nat}{m:dA}{i:TypeInfo}{z:M}(r:P.underlying mt=some (.map j g))(h:P.underlying j=some .string)(p:P.info? g=some i)(s:i.zero=some z)(t:eC w l m)(k:aa):(Instr.lookup mt (.map (some l)) (.string k) false).run P w=.ok ((m.get k).getD z) w:=by
 obtain⟨b,a,o,n,_⟩:=t;obtain⟨u,q⟩:=Ch k b.toList m 0 n;have c:=fo (P:=P) (w:=w) (k:=.string k) h (by trivial) b.isEmpty 9999;have d:=fc (P:=P) (w:=w) h q;have e:(getObj l).run P w=.ok (.map b a) w:=by simp[getObj,Sem.run,o]
 unfold Instr.lookup;rw[iH,er r];simp only[ir,iH,e,lS];rw[show(10000:Nat)=9999+1 from rfl,c];simp only[ir,d];cases hg:m.get k with
 |none=>simp[zeroValue,typeInfo,p,s]
 |some v=>simp
section
open Go.ChangeMaps (setBlock)
def dA.put(m:dA)(k:aa)(v:M):dA:=match m with
 |[]=>[(k,v)]
 |p::r=>if p.1=k then(k,v)::r else p::dA.put r k v
def dA.del(m:dA)(k:aa):dA:=match m with
 |[]=>[]
 |p::r=>if p.1=k then r else p::dA.del r k
theorem Fits.cons{e:MapEntry}{d:List MapEntry}{p:aa×M}{m:dA}(g:e.key=.string p.1)(h:e.val=p.2)(j:Fits d m):Fits (e::d) (p::m):=by
 simp[Fits,g,h];exact j
theorem AY(k:aa):∀(d:List MapEntry)(m:dA)(s:Nat),Fits d m->(Instr.findNow .string (.string k) d s=some none/\m.get k=none/\(∀e∈d,e.key≠ .string k)/\m.del k=m/\∀v,m.put k v=m++[(k,v)])\/∃t e,Instr.findNow .string (.string k) d s=some (some (s+t,e.val))/\d[t]?=some e/\e.key=.string k/\m.get k=some e.val/\(∀v,Fits (d.modify t λe=>{e with key:=.string k,val:=v}) (m.put k v))/\Fits (d.eraseIdx t) (m.del k):=by
 intro d;induction d with
 |nil=>
  intro m s x;obtain rfl:m=[]:=by simpa[Fits]using x
  exact .inl ⟨rfl,rfl,by simp,rfl,λ_=>rfl⟩
 |cons e d z=>
  intro m s x;obtain⟨A,B,rfl,f,q,p⟩:=x.cons_inv;by_cases b:A.1=k
  ·refine .inr ⟨0,e,?_,rfl,by rw[f,b],?_,?_,?_⟩
   ·simp[Instr.findNow,Instr.sameNow,f,b,Cz]
   ·simp[dA.get,b,q]
   ·intro v;simp only[dA.put,b,iY,sd];exact Fits.cons rfl rfl p
   ·simpa[dA.del,b]using p
  ·have g:(k==A.1)=false:=by rw[Cz];simpa usingλe:k=A.1=>b e.symm
   rcases z B (s+1) p with⟨h,i,j,l,n⟩|⟨t,u,h,i,j,l,n,y⟩
   ·refine .inl ⟨?_,?_,?_,?_,?_⟩
    ·simp[Instr.findNow,Instr.sameNow,f,g,h]
    ·simp[dA.get,b,i]
    ·intro C r;rcases aD.1 r with rfl|r
     ·rw[f];simpa using b
     ·exact j C r
    ·simp[dA.del,b,l]
    ·intro v;simp[dA.put,b,n]
   ·refine .inr ⟨t+1,u,?_,by simpa using i,j,?_,?_,?_⟩
    ·simp[Instr.findNow,Instr.sameNow,f,g,h];omega
    ·simp[dA.get,b,l]
    ·intro v;simp only[dA.put,b,ji,mJ];exact Fits.cons f q (n v)
    ·simp only[dA.del,b,ji,List.eraseIdx_cons_succ];exact Fits.cons f q y
theorem Fits.isKey{b:List MapEntry}{m:dA}(h:Fits b m):∀e∈b,∃s,e.key=.string s:=by
 intro e d;have:(e.key,e.val)∈m.map (λp=>(Value.string p.1,p.2)):=by rw[<-h];exact aZ.2 ⟨e,d,rfl⟩
 obtain⟨p,_,f⟩:=aZ.1 this;exact⟨p.1,by simpa using(bB Prod.fst f).symm⟩
theorem jA(w:J)(d:Nat)(o:Obj):w.grownBy (setBlock w d o) (some d):=⟨rfl,rfl,rfl,by simp[setBlock],λk _ b=>by
 simp only[setBlock];rw[gS (λe=>b (by rw[e]))]⟩
theorem wS{P:Program}{w:J}{mt v y q:Nat}{z:dA}(u:P.underlying mt=some (.map v y))(j:P.underlying v=some .string)(C:eC w q z)(l:aa)(x:M):∃k,(Instr.mapUpdate mt (.map (some q)) (.string l) x).run P w=.ok () k/\eC k q (z.put l x)/\w.grownBy k (some q)/\k.heap.size=w.heap.size:=by
 obtain⟨h,b,g,p,t⟩:=C;have f:=lV (P:=P) g;rcases AY l h.toList z 0 p with⟨m,r,i,_,n⟩|⟨A,e,m,r,i,D,n,_⟩
 ·refine⟨setBlock w q (.map (h.push {key:=.string l,val:=x,born:=b}) (b+1)),?_,?_,jA _ _ _,by simp[setBlock]⟩
  ·simp[Instr.mapUpdate,er u,f,fo j (show MapKept.IsKey .string (.string l)by trivial),fc j m,gB _ g,Result.andThen,setBlock]
  ·refine⟨_,_,(ib g).1,?_,MapKept.stamped_push t i⟩;rw[n];simp[Fits]at p|-;exact p
 ·have s:h[A]?=some e:=by simpa using r
  refine⟨setBlock w q (.map (h.modify A λe=>{e with key:=.string l,val:=x}) b),?_,?_,jA _ _ _,by simp[setBlock]⟩
  ·simp[Instr.mapUpdate,er u,f,fo j (show MapKept.IsKey .string (.string l)by trivial),fc j m,s,i,pW (show MapKept.IsKey .string (.string l)by trivial),gB _ g,Result.andThen,setBlock]
  ·refine⟨_,_,(ib g).1,?_,rj t _ _ (λ_ _=>rfl) (λB _ d=>by rw[s]at d;cases d;exact i.symm)⟩;simpa using n x
theorem De{P:Program}{w:J}{mt l t m:Nat}{z:dA}(r:P.underlying mt=some (.map l t))(g:P.underlying l=some .string)(C:eC w m z)(s:aa)(A:TypeId):∃h,(Builtin.delete_ #[mt,l] A #[.map (some m),.string s]).run P w=.ok (.tuple #[]) h/\eC h m (z.del s)/\w.grownBy h (some m)/\h.heap.size=w.heap.size:=by
 obtain⟨d,b,f,p,q⟩:=C;have e:=lV (P:=P) f;rcases AY s d.toList z 0 p with⟨i,j,u,n,v⟩|⟨y,B,i,j,u,n,v,x⟩
 ·refine⟨setBlock w m (.map d b),?_,?_,jA _ _ _,by simp[setBlock]⟩
  ·simp[Builtin.delete_,er r,e,fo g (show MapKept.IsKey .string (.string s)by trivial),fc g i,gB _ f,Result.andThen,setBlock]
  ·rw[n];exact⟨_,_,(ib f).1,p,q⟩
 ·have D:d[y]?=some B:=by simpa using j
  have k:y<d.size:=by
   have:=gV.1 j;simpa using this.1
  refine⟨setBlock w m (.map (d.eraseIdxIfInBounds y) b),?_,?_,jA _ _ _,by simp[setBlock]⟩
  ·simp[Builtin.delete_,er r,e,fo g (show MapKept.IsKey .string (.string s)by trivial),fc g i,gB _ f,Result.andThen,setBlock]
  ·refine⟨_,_,(ib f).1,?_,MapKept.stamped_erase q _⟩;simp only[Array.eraseIdxIfInBounds,k,pG,Array.toList_eraseIdx];exact x
theorem eC.kept{w h:J}{j:Nat}{m:dA}{d:Option Nat}(t:eC w j m)(q:w.grownBy h d)(e:some j≠d):eC h j m:=by
 obtain⟨n,b,g,p,r⟩:=t;exact⟨n,b,(q.block j (ak g) e).trans g,p,r⟩
theorem eC.alloc{w:J}{b:Nat}{m:dA}(h:eC w b m)(o:Obj):eC (w.alloc o) b m:=h.kept (cD w o none) (by simp)
theorem eC.lt{w:J}{d:Nat}{m:dA}(h:eC w d m):d<w.heap.size:=by
 obtain⟨_,_,b,_⟩:=h;exact ak b
section
variable{P:Program}(w:J){c:Array Oper}{rest:List Oper}{o:Oper}{a:Act}{Q:Exit->Act->J->Prop}
theorem xZ(m:o.guard=none)(i z j:Operand)(y:TypeId)(h:o.op=Op.mapUpdate y i z j)(v B:TypeId)(q:P.underlying y=some (.map v B))(n:P.underlying v=some .string)(k:Nat)(x:dA)(p:a.eval i=.map (some k))(C:eC w k x)(b:aa)(d:M)(s:a.eval z=.string b)(r:a.eval j=d)(l:∀f,eC f k (x.put b d)->w.grownBy f (some k)->wpList P c Q rest (a.put o.dst undef) f):wpList P c Q (o::rest) a w:=by
 refine iG m λA g=>?_;obtain⟨f,e,t,u,_⟩:=wS q n C b d;unfold Oper.wp;simp[execOp,h,p,s,r,e,Result.andThen];exact g _ _ (l f t u)
theorem ya(k:o.guard=none)(h x:Operand)(u q:TypeId)(g:o.op=Op.call {callee:=Callee.builtin Builtin.delete,args:=#[h,x],argTypes:=#[u,q]})(y:TypeId)(n:P.underlying u=some (.map q y))(l:P.underlying q=some .string)(i:Nat)(t:dA)(m:a.eval h=.map (some i))(z:eC w i t)(b:aa)(p:a.eval x=.string b)(j:∀e,eC e i (t.del b)->w.grownBy e (some i)->wpList P c Q rest (a.put o.dst (.tuple #[])) e):wpList P c Q (o::rest) a w:=by
 refine iG k λv f=>?_;obtain⟨e,d,r,s,_⟩:=De n l z b o.type;unfold Oper.wp;simp[execOp,g,resolve,invoke,builtin,m,p,d,Result.andThen];exact f _ _ (j e r s)
end
end
def pR:(prog.info? 118).map (λi=>(i.zero,i.size,i.bytes))=some (some (.pointer none),1,8):=by kernel_rfl
def kR(w:J)(c e sb:Nat)(d:M)(b reads iB:Int):Prop:=w.heap[c]?=some (.cells #[.map (some e),.map (some sb),d,.int .i64 b,.int .i64 0,.int .i64 0,.int .i64 reads,.int .i64 iB] 73 (0,0))
def tM(b f sb:Nat)(e:M)(a reads iB:Int)(w:J)(h:kR w b f sb e a reads iB):Calls prog 119 #[.pointer (some ⟨b,0,none⟩)] w λi g=>i=.returned (.bool false)/\g=w:=by
 have c:w.cell? ⟨b,4,none⟩=some (.int .i64 0):=by rw[aj h];rfl
 have d:w.cell? ⟨b,5,none⟩=some (.int .i64 0):=by rw[aj h];rfl
 clear h;go_enter func119,ntmps119
 go_wp2;go_ret;exact⟨rfl,rfl⟩
def qS(c d sb:Nat)(j:M)(b reads iB:Int)(r:dA)(a:aa)(p:Addr)(w:J)(k:kR w c d sb j b reads iB)(i:eC w d r)(g:r.get a=some (.pointer (some p))):Calls prog 117 #[.pointer (some ⟨c,0,none⟩),.string a] w λq o=>q=.returned (.tuple #[.pointer (some p),.nilIface])/\o=w:=by
 obtain⟨s,m,e,_,_⟩:=bK pR;have h:=pL underlying70 underlying9 m e i a;rw[g]at h;simp only[gg]at h;have l:w.cell? ⟨c,0,none⟩=some (.map (some d)):=by rw[aj k];rfl
 have H:=Z k;clear k i g;go_enter func117,ntmps117
 go_wp2_with(first
  |(go_at_call 119;refine(tM c d sb j b reads iB _ (Y H)).mono ?_;rintro q t⟨rfl,rfl⟩))
 go_ret2
 exact⟨rfl,rfl⟩
def Jz(c d sb:Nat)(i:M)(b reads iB:Int)(o:dA)(a:aa)(w:J)(j:kR w c d sb i b reads iB)(h:eC w d o)(f:o.get a=none):Calls prog 117 #[.pointer (some ⟨c,0,none⟩),.string a] w λn m=>n=.returned (.tuple #[.pointer none,.iface 225 (.pointer (some ⟨w.heap.size,0,none⟩))])/\m=w.alloc (.cells #[.string a,.int .i64 10] 227):=by
 obtain⟨p,l,e,_,_⟩:=bK pR;have g:=pL underlying70 underlying9 l e h a;rw[f]at g;simp only[Option.getD_none]at g;have k:w.cell? ⟨c,0,none⟩=some (.map (some d)):=by rw[aj j];rfl
 have H:=Z j;clear j h f;go_enter func117,ntmps117
 go_wp2_with(first
  |(go_at_call 119;refine(tM c d sb i b reads iB _ (Y H)).mono ?_;rintro n q⟨rfl,rfl⟩))
 go_ret2
 exact⟨rfl,rfl⟩
section
open Go.ChangeMaps (setBlock)
def lf(w:J)(h r:Nat)(m left:dA):Prop:=∃e d c seen g,w.heap[h]?=some (.map e d)/\Fits e.toList m/\MapKept.Stamped e d/\w.heap[r]?=some (.mapIter (some h) c seen g)/\(∀x∈e.toList,x.born<c)/\c<=g/\c<=d/\Fits (leftOf e seen).toList left
theorem lf.map{w:J}{z C:Nat}{m left:dA}(A:lf w z C m left):eC w z m:=by
 obtain⟨g,d,_,_,_,h,r,y,_⟩:=A;exact⟨g,d,h,r,y⟩
theorem lf.ne{w:J}{h r:Nat}{s left:dA}(m:lf w h r s left):r≠h:=by
 obtain⟨l,d,_,_,_,g,_,_,e,_⟩:=m;intro k;rw[k,g]at e;cases e
theorem lf.lt{w:J}{g r:Nat}{m left:dA}(y:lf w g r m left):r<w.heap.size:=by
 obtain⟨h,d,_,_,_,_,_,_,e,_⟩:=y;exact ak e
theorem lf.kept{w e:J}{g r:Nat}{m left:dA}(z:lf w g r m left)(x:e.heap[g]?=w.heap[g]?)(y:e.heap[r]?=w.heap[r]?):lf e g r m left:=by
 obtain⟨j,c,d,seen,h,n,p,q,t,u⟩:=z;exact⟨j,c,d,seen,h,x.trans n,p,q,y.trans t,u⟩
theorem Fits.split{f:List MapEntry}{m:dA}{d c:List MapEntry}{e:MapEntry}(j:Fits f m)(hs:f=d++e::c):∃a p h,m=a++p::h/\Fits d a/\e.key=.string p.1/\e.val=p.2/\Fits c h:=by
 subst hs;unfold Fits at j;rw[aN,aY]at j;obtain⟨a,t,rfl,q,r⟩:=iI.1 j.symm;obtain⟨p,h,rfl,g,s⟩:=List.map_eq_cons_iff.1 r;exact⟨a,p,h,rfl,q.symm,(bB Prod.fst g).symm,(bB Prod.snd g).symm,s.symm⟩
theorem Fits.append{d e:List MapEntry}{m n:dA}(h:Fits d m)(k:Fits e n):Fits (d++e) (m++n):=by
 unfold Fits at*;rw[aN,aN,h,k]
theorem Je{d:Array MapEntry}{seen:Array Nat}{f e:List MapEntry}{h:MapEntry}(m:(d.toList.map (·.born)).Nodup)(n:(leftOf d seen).toList=f++h::e):(leftOf d (seen.push h.born)).toList=f++e:=by
 have i:(leftOf d (seen.push h.born)).toList=(leftOf d seen).toList.filter (λx=>!(x.born==h.born)):=by
  simp only[leftOf,Array.toList_filter,List.filter_filter];congr 1;funext x;simp[Bool.and_comm];rfl
 have c:((leftOf d seen).toList.map (·.born)).Nodup:=by
  have:(leftOf d seen).toList.Sublist d.toList:=by simp[leftOf]
  exact oK (this.map _) m
 rw[i,n];rw[n]at c;simp only[aN,aY]at c;obtain⟨_,j,k⟩:=gE.1 c;obtain⟨l,_⟩:=iA.1 j;rw[iT,cA (by simp)];congr 1
 ·refine ff.2 (λx g=>?_);have:=k x.born (aZ.2 ⟨x,g,rfl⟩) h.born (by simp);simpa using this
 ·refine ff.2 (λx g=>?_);have:x.born≠h.born:=λc=>l (by rw[<-c];exact aZ.2 ⟨x,g,rfl⟩);simpa using this
theorem Fx{P:Program}{w:J}{mt k h g:Nat}{m:dA}(l:P.underlying mt=some (.map k h))(n:eC w g m):∃e,(Instr.range mt (.map (some g))).run P w=.ok (.pointer (some ⟨w.heap.size,0,none⟩)) e/\lf e g w.heap.size m m/\w.grownBy e none/\e.heap.size=w.heap.size+1:=by
 obtain⟨d,c,f,i,j⟩:=n;refine⟨_,run_range_map w mt k h g d c l f,⟨d,c,c,#[],c,((MapKept.heap_alloc w _).2 g (ak f)).trans f,i,j,(MapKept.heap_alloc w _).1,j.1,ai _,ai _,?_⟩,cD w _ none,by simp⟩;have:leftOf d #[]=d:=by simp[leftOf]
 rw[this];exact i
theorem Iv{P:Program}{w:J}{v r:Nat}{W left:dA}(V:lf w v r W left)(G:TypeId):(left=[]/\(Instr.next (.pointer (some ⟨r,0,none⟩)) false G).run P w=.ok (.tuple #[.bool false]) w)\/∃m F g p,left=m++F::g/\(Instr.next (.pointer (some ⟨r,0,none⟩)) false G).run P w=.ok (.tuple #[.bool true,.string F.1,F.2]) p/\lf p v r W (m++g)/\w.grownBy p (some r)/\p.heap.size=w.heap.size/\(Instr.entry (.pointer (some ⟨r,0,none⟩))).run P p=.ok (.tuple #[.string F.1,F.2]) p:=by
 have B:=V.ne;obtain⟨l,c,d,seen,H,K,U,C,N,k,D,t,A⟩:=V;rcases run_next_at (P:=P) w G r v d H seen l c N K k D with⟨R,f⟩|⟨x,L,y,h,f⟩
 ·refine .inl ⟨?_,f⟩;have:(leftOf l seen).toList=[]:=by simpa using Array.eq_empty_of_size_eq_zero R
  rw[this]at A;simpa[Fits]using A
 ·obtain⟨m,g,u⟩:=List.append_of_mem L;obtain⟨a,F,X,rfl,S,n,O,T⟩:=A.split u;have i:y.heap=w.heap:=by rcases h with rfl|rfl<;>rfl
  have s:y.heap[r]?=some (.mapIter (some v) d seen H):=by rw[i];exact N
  have j:(setBlock y r (.mapIter (some v) d (seen.push x.born) c)).heap[r]?=some (.mapIter (some v) d (seen.push x.born) c):=(ib s).1;have e:∀E,E≠r->(setBlock y r (.mapIter (some v) d (seen.push x.born) c)).heap[E]?=w.heap[E]?:=λE n=>((ib s).2 E n).trans (by rw[i]);have q:=(e v (λx=>B x.symm)).trans K;have z:x∈l.toList:=by
   have:(leftOf l seen).toList.Sublist l.toList:=by simp[leftOf]
   exact this.subset L
  refine .inr ⟨a,F,X,_,rfl,by rw[<-n,<-O];exact f,⟨l,c,d,_,c,q,U,C,j,k,t,t,by rw[Je C.2.1 u];exact S.append T⟩,⟨?_,?_,?_,?_,λE _ n=>e E (λx=>n (by rw[x]))⟩,?_,?_⟩
  ·rcases h with rfl|rfl<;>rfl
  ·rcases h with rfl|rfl<;>rfl
  ·rcases h with rfl|rfl<;>rfl
  ·simp[setBlock,i]
  ·simp[setBlock,i]
  ·rw[<-n,<-O];exact run_entry_at _ r v d seen l c x j q z C.2.1
section
variable{P:Program}(w:J){b:Array Oper}{rest:List Oper}{o:Oper}{a:Act}{Q:Exit->Act->J->Prop}
theorem qa(l:o.guard=none)(h:Operand)(t:TypeId)(g:o.op=Op.range t h)(z x:TypeId)(n:P.underlying t=some (.map z x))(j:Nat)(p:dA)(m:a.eval h=.map (some j))(y:eC w j p)(k:∀c,lf c j w.heap.size p p->w.grownBy c none->c.heap.size=w.heap.size+1->wpList P b Q rest (a.put o.dst (.pointer (some ⟨w.heap.size,0,none⟩))) c):wpList P b Q (o::rest) a w:=by
 refine iG l λu e=>?_;obtain⟨c,d,q,r,s⟩:=Fx n y;unfold Oper.wp;simp[execOp,g,m,d,Result.andThen];exact e _ _ (k c q r s)
theorem rm(x:o.guard=none)(m:Operand)(l:o.op=Op.next m false)(z r:Nat)(A left:dA)(nu:a.eval m=.pointer (some ⟨r,0,none⟩))(C:lf w z r A left)(h:left=[]->wpList P b Q rest (a.put o.dst (.tuple #[.bool false])) w)(j:∀e p c g,left=e++p::c->lf g z r A (e++c)->w.grownBy g (some r)->g.heap.size=w.heap.size->(Instr.entry (.pointer (some ⟨r,0,none⟩))).run P g=.ok (.tuple #[.string p.1,p.2]) g->wpList P b Q rest (a.put o.dst (.tuple #[.bool true,.string p.1,p.2])) g):wpList P b Q (o::rest) a w:=by
 refine iG x λB k=>?_;unfold Oper.wp;rcases Iv (P:=P) C o.type with⟨n,d⟩|⟨e,p,c,g,y,d,q,s,t,u⟩
 ·simp[execOp,l,nu,d,Result.andThen];exact k _ _ (h n)
 ·simp[execOp,l,nu,d,Result.andThen];exact k _ _ (j e p c g y q s t u)
end
end
section
open Go.ChangeMaps (setBlock)
def jd(w:J)(g:Nat)(h:TypeDesc)(e:M->Prop):Prop:=∃d c,w.heap[g]?=some (.map d c)/\MapKept.Stamped d c/\(∀x∈d.toList,MapKept.IsKey h x.key)/\(∀x∈d.toList,x.val=.agg #[])/\∀k,e k↔∃x∈d.toList,x.key=k
theorem jd.lt{w:J}{e:Nat}{g:TypeDesc}{ks:M->Prop}(h:jd w e g ks):e<w.heap.size:=by
 obtain⟨_,_,d,_⟩:=h;exact ak d
theorem jd.dh{w w':J}{e:Nat}{l:TypeDesc}{d:M->Prop}(n:jd w e l d)(m:w'.heap[e]?=w.heap[e]?):jd w' e l d:=by
 obtain⟨f,c,g,h⟩:=n;exact⟨f,c,m.trans g,h⟩
theorem jd.new(w:J)(d:TypeDesc):jd (w.alloc (.map #[] 0)) w.heap.size d (λ_=>False):=by
 refine⟨#[],0,?_,⟨by simp,by simp,by simp⟩,by simp,by simp,by simp⟩;show(w.heap.push _)[w.heap.size]?=_;simp
theorem jd.congr{w:J}{q:Nat}{r:TypeDesc}{e d:M->Prop}(t:jd w q r e)(s:∀k,d k↔e k):jd w q r d:=by
 obtain⟨f,c,g,h,l,n,p⟩:=t;exact⟨f,c,g,h,l,n,λk=>(s k).trans (p k)⟩
theorem vT{P:Program}{w:J}{mt z s B:Nat}{C:TypeDesc}{y:M->Prop}{i:TypeInfo}(H:P.underlying mt=some (.map z s))(q:P.underlying z=some C)(G:P.info? s=some i)(N:i.zero=some (.agg #[]))(O:jd w B C y)(k:M)(f:MapKept.IsKey C k)(A:Bool)(x:A=true↔y k):(Instr.lookup mt (.map (some B)) k true).run P w=.ok (.tuple #[.agg #[],.bool A]) w:=by
 obtain⟨g,d,F,R,r,K,t⟩:=O;have n:=fo (P:=P) (w:=w) (k:=k) q f g.isEmpty 9999;have p:(getObj B).run P w=.ok (.map g d) w:=by simp[getObj,Sem.run,F]
 unfold Instr.lookup;rw[iH,er H];simp only[ir,iH,p,lS];rw[show(10000:Nat)=9999+1 from rfl,n];simp only[ir];rcases MapKept.findNow_spec f g.toList 0 r with⟨h,l⟩|⟨j,D,h,l,E⟩
 ·have e:=fc (P:=P) (w:=w) q h;have:A=false:=by
   cases A with
   |false=>rfl
   |true=>
    obtain⟨T,L,c⟩:=(t k).1 (x.1 rfl);exact absurd c (l T L)
  simp[e,zeroValue,typeInfo,G,N,this]
 ·have e:=fc (P:=P) (w:=w) q h;have c:D∈g.toList:=gl l;have:A=true:=x.2 ((t k).2 ⟨D,c,E⟩);simp[e,this,K D c]
theorem uk{P:Program}{w:J}{mt O S D:Nat}{R:TypeDesc}{N:M->Prop}(K:P.underlying mt=some (.map O S))(t:P.underlying O=some R)(T:jd w D R N)(z:M)(i:MapKept.IsKey R z):∃v,(Instr.mapUpdate mt (.map (some D)) z (.agg #[])).run P w=.ok () v/\jd v D R (λx=>N x\/x=z)/\w.grownBy v (some D)/\v.heap.size=w.heap.size:=by
 obtain⟨h,d,p,H,m,L,u⟩:=T;have n:=lV (P:=P) p;rcases MapKept.findNow_spec i h.toList 0 m with⟨A,s⟩|⟨F,e,A,s,C⟩
 ·refine⟨setBlock w D (.map (h.push {key:=z,val:=.agg #[],born:=d}) (d+1)),?_,?_,jA _ _ _,by simp[setBlock]⟩
  ·simp[Instr.mapUpdate,er K,n,fo t i,fc t A,gB _ p,Result.andThen,setBlock]
  ·refine⟨_,_,(ib p).1,MapKept.stamped_push H s,?_,?_,?_⟩
   ·intro x g;simp only[pJ,aw,bE]at g;rcases g with g|rfl
    ·exact m x g
    ·exact i
   ·intro x g;simp only[pJ,aw,bE]at g;rcases g with g|rfl
    ·exact L x g
    ·rfl
   ·intro x;simp only[pJ,aw,bE];constructor
    ·rintro(E|rfl)
     ·obtain⟨y,r,e⟩:=(u x).1 E;exact⟨y,.inl r,e⟩
     ·exact⟨_,.inr rfl,rfl⟩
    ·rintro⟨y,r|rfl,e⟩
     ·exact .inl ((u x).2 ⟨y,r,e⟩)
     ·exact .inr e.symm
 ·have G:h[F]?=some e:=by simpa using s
  have q:e∈h.toList:=gl s;refine⟨setBlock w D (.map (h.modify F λe=>{e with key:=z,val:=.agg #[]}) d),?_,?_,jA _ _ _,by simp[setBlock]⟩
  ·simp[Instr.mapUpdate,er K,n,fo t i,fc t A,G,C,pW i,gB _ p,Result.andThen,setBlock]
  ·have l:∀j,h[F]?=some j->j.key=z:=λj c=>by rw[G]at c;cases c;exact C
   refine⟨_,_,(ib p).1,rj H _ _ (λ_ _=>rfl) (λj _ c=>(l j c).symm),MapKept.isKey_modify m _ _ (λj c=>(l j c).symm),?_,?_⟩
   ·intro x g;rw[Array.toList_modify]at g;obtain⟨B,k⟩:=List.getElem?_of_mem g;rw[List.getElem?_modify]at k;cases hc:h.toList[B]? with
    |none=>rw[hc]at k;cases k
    |some y=>
     rw[hc]at k;have r:=L y (gl hc);by_cases E:F=B
     ·simp[E]at k;rw[<-k]
     ·simp[E]at k;rw[<-k];exact r
   ·intro x;have k:((h.modify F λe=>{e with key:=z,val:=Value.agg #[]}).toList.map (·.key))=h.toList.map (·.key):=MapKept.modify_keys _ _ (λj c=>(l j c).symm);have B:(∃y∈(h.modify F λe=>{e with key:=z,val:=Value.agg #[]}).toList,y.key=x)↔∃y∈h.toList,y.key=x:=by
     rw[<-aZ (f:=λy:MapEntry=>y.key),<-aZ (f:=λy:MapEntry=>y.key),k]
    rw[B,<-u x];constructor
    ·rintro(E|rfl)
     ·exact E
     ·exact(u _).2 ⟨e,q,C⟩
    ·exact .inl
section
variable{P:Program}(w:J){b:Array Oper}{rest:List Oper}{o:Oper}{a:Act}{Q:Exit->Act->J->Prop}
theorem qc(s:o.guard=none)(l x n:Operand)(E:TypeId)(g:o.op=Op.mapUpdate E l x n)(k G:TypeId)(z:P.underlying E=some (.map k G))(q:TypeDesc)(t:P.underlying k=some q)(p:Nat)(h:M->Prop)(y:a.eval l=.map (some p))(H:jd w p q h)(c:M)(f:MapKept.IsKey q c)(B:a.eval x=c)(A:a.eval n=.agg #[])(r:∀w',jd w' p q (λx=>h x\/x=c)->w.grownBy w' (some p)->wpList P b Q rest (a.put o.dst undef) w'):wpList P b Q (o::rest) a w:=by
 refine iG s λF e=>?_;obtain⟨w',d,C,D,_⟩:=uk z t H c f;unfold Oper.wp;simp[execOp,g,y,B,A,d,Result.andThen];exact e _ _ (r w' C D)
end
end
end Go.Proofs.YtophdnlmpfmeiaaGreatDoor
