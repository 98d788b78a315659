import Derived.Test.YtojeeoclojldpaaGreatDoorC34
open _root_ renaming Option.some→H,Array.size→z,Go.World.heap→G,Go.World.cell?→aT,Go.World.alloc→ct,Bool.false→bF,Bool.true→bW,Nat→M,Int→Z,Go.Calls→cy,Go.Proofs.Tryz.prog→bG,Go.Value.bool→aL,Go.Value.pointer→fp,Go.Value.tuple→dB
namespace Go.Proofs.YtojeeoclojldpaaGreatDoor
open ChangeShapes WideShapes RowKit Proofs.Tryz
set_option maxHeartbeats 16000000
set_option linter.all false
set_option maxRecDepth 100000
variable{a:I}{b c:M}{m F:Z}
def Xh:PR 0 (cF [] [] [] []):=by
 have e:cF [] [] [] []=[[],[],[]]:=rfl;rw[e];have a:PR 0 ([]:dW):=⟨List.Pairwise.nil,by simp,by simp,by simp⟩;exact a.El.El.El
def Ue(f:cK a b (rr c))(i:Steps a)(g:Pow a)(d:¬(rr c).bj b 1)(e:¬(rr c).bj b 2):wN a b (rr c) [] [] [] [] 0 0 0 2 1 bF []where
 aN:=f
 qX:=by
  refine⟨λn j h=>?_,.inr ⟨rfl,rfl,rfl,rfl,rfl,rfl,rfl,rfl⟩,λh=>(by cases h),λ_=>rfl,by simp,by simp,by simp,by omega,by simp⟩;simp[rr,vw,dX]at h
 pr:=Xh
 lp:=⟨by simp,by simp,by simp,by simp,by omega,by simp⟩
 qI:=by simp[gJ,cg]
 mJ:=by omega
 s1:=⟨by simp,List.Pairwise.nil,List.Pairwise.nil⟩
 s2:=⟨by simp,List.Pairwise.nil,List.Pairwise.nil⟩
 s3:=⟨by simp,List.Pairwise.nil,List.Pairwise.nil⟩
 TX:=λh=>by cases h
 nx:=by omega
 bn:=by simp
 eM:=by simp[rr]
 JW:=by omega
 steps:=i
 pow:=g
 fC:=d
 me:=e
def GC(a:0<=m)(b:m<F)(c:F<=100):rZ m F=m:=by
 unfold rZ;have e:IntKind.u64.wrap m=m:=by rw[gV];omega
 rw[e,Int.tmod_eq_of_lt a b];unfold wrap64;omega
def Ht(j al:Z)(X:Steps a)(W:Pow a)(V:pD a):cy bG 6 #[ap j,ap al] a λT w'=>∃o,T=aO (dB #[aA o,aL bW])/\BN a w' o [] 0 1:=by
 have A:=Ch a;obtain⟨E,D,HE⟩:=dC X W V;have rM:=GB j 32 (by omega) (by omega);have rT:=GB al 5 (by omega) (by omega);clear X W V;go_in
 go_wp2_with fail
 apply A.mono;rintro T d⟨rfl,v,s⟩;have i:=U v;have p:=U s;clear v s A;obtain⟨g,b⟩:∃g,ct (ct d<|ar #[aK,aK,aL bF] 46) (ar #[aA<|z (G a)+2,fp none,aA<|z<|G d,ap 0,ap 0,aK,aK] 40)=g:=⟨_,rfl⟩;have m:Y aB d g:=by rw[<-b];exact((Y.refl aB d).alloc _).alloc _
 have f:Y aB a g:=(Y.aW (S:=aB) p).ci m;have O:=p.size;have x:=ak i.iG;have P:z (G g)=z (G d)+2:=by rw[<-b];simp
 have u:g.heap[z (G d)+1]?=H (ar #[aA<|z (G a)+2,fp none,aA<|z<|G d,ap 0,ap 0,aK,aK] 40 (0,0)):=by rw[<-b];exact aD _<|by simp
 have t:g.heap[z<|G d]?=H (ar #[aK,aK,aL bF] 46 (0,0)):=by rw[<-b];exact(fX _<|by simp).trans<|aD _ rfl
 have c:∀n,(rr<|z<|G a).bj (z (G a)+2) n->z (G a)<=n/\n<z (G d):=λn q=>by refine⟨?_,i.lt n q⟩;rcases q with B|B|B|B|⟨ao,N,B⟩|⟨au,hg,B⟩;omega;have:n=z (G a):=B;omega;have:n=z (G a)+1:=B;omega;cases B;cases N;cases hg
 have w:=i.aw m<|λ_ _=>id;have e:=Ue w (Steps.aw E f id) (D.aw f id) (λq=>by have:=(c _ q).1;have:=E.lt;omega) (λq=>by have:=(c _ q).1;have:=D.lt;omega);have r:OW a g (z (G d)+1) (z (G a)+2) (z<|G d) (none,aK) none 0 0 aK aK [] [] (rr<|z<|G a) [] [] [] [] 0 0 0 2 1 bF [] [] ([],[]) bF:=by refine⟨u,⟨⟨⟨_,t,⟨rfl,.inl ⟨rfl,rfl⟩⟩,rfl⟩,by simp,by simp⟩,⟨⟨rfl,.inl ⟨rfl,rfl⟩⟩,by simp,by simp,by simp⟩,bK _ _ _ _,λn _ _ _ a=>(by cases a),rfl,by simp,λn a=>(by cases a)⟩,e,UT (by simp[cF,gJ,cg,ke,mU]),by simp,⟨rfl,.inl ⟨rfl,rfl⟩⟩,⟨rfl,.inl ⟨rfl,rfl⟩⟩,by simp,f,⟨λn q=>(c n q).1,by omega,by omega⟩,λq=>by have:=(c _ q).2;omega,λq=>by have:=(c _ q).2;omega,λn q=>(by rcases q with q|q|⟨ao,N,_⟩;cases q;cases q;cases N),λn q=>(by cases q),λn q=>(by cases q),by simp,λq T=>(by cases T),by omega,E,D,HE⟩
 have ho:oz (rZ (1+wrap64 ((IntKind.u64.wrap j).tmod 32)) 34) (rZ (2+wrap64 ((IntKind.u64.wrap al).tmod 5)) 8)=0:=by rw[GC (by omega) (by omega) (by omega),GC (by omega) (by omega)<|by omega];unfold oz;rw[cW<|by omega]
 have l:=JT r _ _ ho (by omega);have F:=U b;obtain⟨o,k⟩:∃o,z (G d)+1=o:=⟨_,rfl⟩;rw[k]at l;have K:=U k;clear b m f O x P u t c w e r ho k;go_wp2_with fail
 rw[ae F,ae K];apply l.mono;rintro T W4⟨rfl,Q,an,ac,ad,L⟩;have y1:aT W4 (R o 1)=H (aA Q):=L.jr.2.1;have C:=U L;clear l L;go_wp2_with fail
 go_quiet(fail)
 rename_i nq;go_wp2;go_ret2
 exact⟨_,rfl,_,_,_,_,_,_,_,_,_,_,_,C.still<|ia _ _ _⟩
