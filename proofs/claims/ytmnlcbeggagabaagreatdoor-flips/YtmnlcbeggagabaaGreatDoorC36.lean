import Derived.Test.YtmnlcbeggagabaaGreatDoorC35
open _root_ renaming List.length→y,Option.some→H,Go.World.cell?→aS,Bool.true→ci,Nat→M,List→cS,Go.Proofs.Tryz.prog→aZ
namespace Go.Proofs.YtmnlcbeggagabaaGreatDoor
open ChangeShapes WideShapes RowKit Proofs.Tryz List
set_option maxHeartbeats 16000000
set_option linter.all false
set_option maxRecDepth 100000
section
variable{a:Type}{enc:TypeId×ab->a}
theorem Vm{W:Z}{b:M}{f:iF}{P:DataW a×cS MemPlace}(O:DataW.trod enc aZ W 0 (λ_=>ci) ci b 63 f=H P)(g:∀n∈P.1.weights aZ 63,n<=140737488351232):∃q:LW,(∀m,m<2->f[m]?=q.cells[m]?)/\Cz W q.L q.cs/\(∀N∈q.cs,N.key.size<=140737488351232/\N.val.size<=140737488351232)/\y q.cs<=10000000000000:=by
 obtain⟨s,n,C,B,l⟩:=BU XI O;obtain⟨F,o,r⟩:=l 0 _ _ rfl;obtain⟨K,p,d⟩:=l 1 _ _ rfl;rw[YW]at r;rw[Yd]at d;obtain⟨E,t,u,_⟩:=DataW.trod_int Mj r;have x:∃L,(f.drop 1).take 1=[L]:=by rcases Go.Deep.open_slice Se d with⟨w,_⟩|⟨T,D,v,V,n,S,Q,w,_⟩;(grind);grind
 obtain⟨L,k⟩:=x;rw[k]at d
 have j:s=[F,K]:=by
  match s,B,o,p with
  |[v,w],_,o,p=>
   grind
 rw[C,j,BF XI,u]at g;simp only[cr,gQ,DataW.weightsEach]at g;obtain⟨e,c,i,h⟩:=Qd d (λn f=>g n (by simp[f]));refine⟨⟨E,L,e⟩,λm A=>?_,c,i,h⟩;match m,A with
 |0,_=>exact wx t
 |1,_=>exact wx k
 |n+2,O=>grind
theorem Kc{W:Z}{f:M}{v:ab}{D:DataW a×cS MemPlace}(ad:DataW.trod enc aZ W 0 (λ_=>ci) ci f 22 [v]=H D)(p:∀n∈D.1.weights aZ 22,n<=140737488351232):(∃D C,v=.slice D 0 C)\/∃X,EI W v X:=by
 rcases Go.Deep.open_slice Wz ad with⟨i,_⟩|⟨an,b,F,al,n,aa,E,i,_,V,_,w,K,g⟩;grind
 simp only[oz,vZ]at i;simp only[lk]at w;subst i w;by_cases h0:b=0;(grind);right;rw[Zj]at g;obtain⟨ac,d,rfl,N,L⟩:=JA (Q:=λi c=>DataW.trod enc aZ W 0 (λ_=>ci) ci n 63 c=H (aa i,E i)) (by omega:0<b) (by omega:0<2) (λi e=>g i (by omega));rw[K,yl Wz,Zk]at p;(have h:b<=10000000000000:=by have:=p _ (mr);grind);have P:∀i,i<b->∀n∈(aa i).weights aZ 63,n<=140737488351232:=λi e n c=>p n (dC _ (jR _ (wu (bM.2 ⟨i,nk.2 e,rfl⟩) n c)));(have k:∀i,i<b->∃o:LW,(∀j,j<2->aS W (R ac (d+i*2+j))=o.cells[j]?)/\Cz W o.L o.cs/\(∀C∈o.cs,C.key.size<=140737488351232/\C.val.size<=140737488351232)/\y o.cs<=10000000000000:=by grind[Vm]);have B:Inhabited LW:=⟨⟨0,aw,[]⟩⟩;obtain⟨l,O⟩:=Go.Deep.choose_lt k;(have c:y ((List.range b).map l)=b:=by simp);(have x:∀o∈(List.range b).map l,∃i,i<b/\l i=o:=λo r=>by grind);refine⟨(List.range b).map l,⟨⟨by rw[zK],.inr ⟨ac,d,al,by rw[c],by rw[c];exact V,λj au u=>?_⟩⟩,λo r=>?_,λao T=>by cases T;exact N,λo r=>?_,by rw[c];exact h,λo r=>?_⟩⟩;(have S:j<b*2:=by have:=(jt.1 u).1;rw[zK,c]at this;exact this);(have e:j/2<b:=by omega);(have A:j%2<2:=by omega);have m:=rP ((List.range b).map l) (j/2) (by rw[c];exact e) (j%2) A;have t:=(O (j/2) e).1 (j%2) A;(have q:((List.range b).map l)[j/2]'(by rw[c];exact e)=l (j/2):=by simp);rw[q]at m;(have s:j/2*2+j%2=j:=by omega);rw[s]at m;rw[bF,s]at t;rw[t,<-m,u];(grind);(grind);grind
end
