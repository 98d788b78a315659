import Derived.Test.YtmnlcbeggagabaaGreatDoorC35
open _root_ renaming List.length→y,Option.some→H,Go.World.cell?→aS,Bool.true→cq,Nat→M,List→cS,Go.Proofs.Tryz.prog→aZ
namespace Go.Proofs.YtmnlcbeggagabaaGreatDoor
open ChangeShapes WideShapes RowKit Proofs.Tryz List
set_option maxHeartbeats 16000000
set_option linter.all false
set_option maxRecDepth 100000
section
variable{a:Type}{enc:TypeId×ab->a}
theorem Vn{W:Z}{b:M}{f:iI}{P:DataW a×cS MemPlace}(O:DataW.trod enc aZ W 0 (λ_=>cq) cq b 63 f=H P)(g:∀n∈P.1.weights aZ 63,n<=140737488351232):∃q:LX,(∀m,m<2->f[m]?=q.cells[m]?)/\CA W q.L q.cs/\(∀N∈q.cs,N.key.size<=140737488351232/\N.val.size<=140737488351232)/\y q.cs<=10000000000000:=by
 obtain⟨s,n,C,B,l⟩:=BV XJ O;obtain⟨F,o,r⟩:=l 0 _ _ rfl;obtain⟨K,p,d⟩:=l 1 _ _ rfl;rw[YX]at r;rw[Ye]at d;obtain⟨E,t,u,_⟩:=DataW.trod_int Mk r;have x:∃L,(f.drop 1).take 1=[L]:=by rcases Go.Deep.open_slice Sf d with⟨w,_⟩|⟨T,D,v,V,n,S,Q,w,_⟩;(grind);grind
 obtain⟨L,k⟩:=x;rw[k]at d
 have j:s=[F,K]:=by
  match s,B,o,p with
  |[v,w],_,o,p=>
   grind
 rw[C,j,BG XJ,u]at g;simp only[bV,gC,DataW.weightsEach]at g;obtain⟨e,c,i,h⟩:=Qe d (λn f=>g n (by simp[f]));refine⟨⟨E,L,e⟩,λm A=>?_,c,i,h⟩;match m,A with
 |0,_=>exact wy t
 |1,_=>exact wy k
 |n+2,O=>grind
theorem Kd{W:Z}{f:M}{v:ab}{D:DataW a×cS MemPlace}(ad:DataW.trod enc aZ W 0 (λ_=>cq) cq f 22 [v]=H D)(p:∀n∈D.1.weights aZ 22,n<=140737488351232):(∃D C,v=.slice D 0 C)\/∃X,EJ W v X:=by
 rcases Go.Deep.open_slice WC ad with⟨i,_⟩|⟨an,b,F,al,n,aa,E,i,_,V,_,w,K,g⟩;grind
 simp only[oC,wa]at i;simp only[ly]at w;subst i w;by_cases h0:b=0;(grind);right;rw[Zk]at g;obtain⟨ac,d,rfl,N,L⟩:=JB (Q:=λi c=>DataW.trod enc aZ W 0 (λ_=>cq) cq n 63 c=H (aa i,E i)) (by omega:0<b) (by omega:0<2) (λi e=>g i (by omega));rw[K,ym WC,Zl]at p;(have h:b<=10000000000000:=by have:=p _ (mz);grind);have P:∀i,i<b->∀n∈(aa i).weights aZ 63,n<=140737488351232:=λi e n c=>p n (dD _ (jU _ (wv (bJ.2 ⟨i,nr.2 e,rfl⟩) n c)));(have k:∀i,i<b->∃o:LX,(∀j,j<2->aS W (R ac (d+i*2+j))=o.cells[j]?)/\CA W o.L o.cs/\(∀C∈o.cs,C.key.size<=140737488351232/\C.val.size<=140737488351232)/\y o.cs<=10000000000000:=by grind[Vn]);have B:Inhabited LX:=⟨⟨0,aw,[]⟩⟩;obtain⟨l,O⟩:=Go.Deep.choose_lt k;(have c:y ((List.range b).map l)=b:=by simp);(have x:∀o∈(List.range b).map l,∃i,i<b/\l i=o:=λo r=>by grind);refine⟨(List.range b).map l,⟨⟨by rw[zL],.inr ⟨ac,d,al,by rw[c],by rw[c];exact V,λj au u=>?_⟩⟩,λo r=>?_,λao T=>by cases T;exact N,λo r=>?_,by rw[c];exact h,λo r=>?_⟩⟩;(have S:j<b*2:=by have:=(jv.1 u).1;rw[zL,c]at this;exact this);(have e:j/2<b:=by omega);(have A:j%2<2:=by omega);have m:=rR ((List.range b).map l) (j/2) (by rw[c];exact e) (j%2) A;have t:=(O (j/2) e).1 (j%2) A;(have q:((List.range b).map l)[j/2]'(by rw[c];exact e)=l (j/2):=by simp);rw[q]at m;(have s:j/2*2+j%2=j:=by omega);rw[s]at m;rw[bG,s]at t;rw[t,<-m,u];(grind);(grind);grind
end
