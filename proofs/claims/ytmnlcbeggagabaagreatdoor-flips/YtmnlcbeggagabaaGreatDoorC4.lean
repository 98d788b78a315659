import Derived.Deep.RegionHeld3
import Derived.Laws.Entries
import Derived.MapKept
import Derived.Maps.RangeWalk
import Derived.OwnWalk
import Derived.Test.YtmnlcbeggagabaaGreatDoorC1
import Derived.Test.YtmnlcbeggagabaaGreatDoorC2
open _root_ renaming List.length→y,Option.some→H,Array.size→z,Go.World.heap→G,Go.Value.ownBlock→cz,Go.World.cell?→aS,Go.World.setCell→cA,Go.World.alloc→cG,Bool.false→bj,Bool.true→ci,Nat→M,Int→U,List→cS,Go.Calls→cD,Go.undef→ix,Go.Proofs.Tryz.prog→aZ,Go.Value.string→am,Go.Value.bool→aK,Go.Value.pointer→dF,Go.Value.tuple→dd,Go.Value.agg→dD
namespace Go.Proofs.YtmnlcbeggagabaaGreatDoor
open ChangeShapes WideShapes RowKit Proofs.Tryz List
set_option maxHeartbeats 16000000
set_option linter.all false
set_option maxRecDepth 100000
variable{a f B:Z}{b c g:M}{d u P:ab}{k D S:U}{n:dN}{K:Bool}
def E.value(e:E):ab:=dD #[am e.key,am e.val,aK e.del,aE e.bJ]
def E.cells(e:E):iF:=[am e.key,am e.val,aK e.del,aE e.bJ]
def oG(d:Bool):U:=if d then 1 else 0
def dZ(s:ae):dN:=(s.size:U)::kM s
def nP(e:E):dN:=oG e.del::(dZ e.key++dZ e.val)
def eC.ne(h:eC a B d u)(e:cz d≠H b)(c:b<z (G a)):cz u≠H b:=by
 grind[eC.uj]
def eC.cell{w w':Z}(h:eC w w' d u){N i:M}(a:aS w (R N i)=H P)(c:cz d≠H N):aS w' (R N i)=H P:=h.grown.cell a<|λe=>c e.symm
def eE.lt{bs:dN}(h:eE a c d bs):∀k,cz d=H k->c<=k/\k<z (G a):=bK h
def eE.of_heap{w w':Z}(h:eE w b d n)(e:w'.heap=w.heap):eE w' b d n:=by
 unfold eE World.ownsRow at*;rw[e];exact h
def eC.of_heap{a w w':Z}(h:eC w w' d u)(e:(a.os,a.tape,a.output,a.heap)=(w.os,w.tape,w.output,w.heap)):eC a w' d u:=by
 simp only[iZ]at e;obtain⟨g,i,j,b⟩:=e;refine⟨⟨by rw[h.grown.os,g],by rw[h.grown.tape,i],by rw[h.grown.output,j],by rw[b];exact h.grown.size,λl e k=>by rw[b]at e|-;exact h.grown.block l e k⟩,by rw[b];exact h.uj⟩
def eC.GG{o:Obj}(h:eC (a.alloc o).drew f d u):eC a f d u:=(eC.of_heap (a:=a.alloc o) h rfl).alloc o
def Ow(a:M)(aa:ab)(s:dN)(ac:E)(w:Z)(p:eE w a aa s)(hb:a<=z (G w))(hl:y s<=35184372088832)(S:ac.key.size<=255)(V:ac.val.size<=255):cD aZ 190 #[aa,ac.value] w λD w'=>∃X,D=aJ X/\eE w' a X (s++nP ac)/\eC w w' aa X:=by
 obtain⟨d,e,B,k⟩:=ac;simp only at S V;unfold E.value;simp only;have i:cz aa≠H (z<|G w):=λD=>by have:=(p.lt _ D).2;omega
 have O0:=Y<|p.alloc<|ay #[am d,am e,aK B,aE k] 170;clear p;cases B with
 |true=>
  go_in
  go_wp2_with fail
  go_region_held3(λj=>aS j (R (z<|G w) 0)=H (am d)/\aS j (R (z<|G w) 1)=H (am e)) (first|assumption|go_keep) (first
   |(go_at_call 189;refine(tD a aa s 1 _ ?_ (by simp;omega)<|by omega).mono ?_;exact O0.of_heap rfl;rintro D x⟨u,rfl,m,b⟩;have g:cz u≠H (z<|G w):=b.ne i (by simp);have q:aS x (R (z<|G w) 0)=H (.string d)/\aS x (R (z<|G w) 1)=H (.string e):=⟨b.cell (by simp) i,b.cell (by simp) i⟩;have t:z (G w)<z (G x):=(by have:=b.grown.size;simp at this;omega);have F:=Y m;have N:=Y b;clear m b)
   |(go_at_call_of 230 u;refine(oU a u (s++[1]) d _ ?_ (by omega) ?_ S).mono ?_;exact F.of_heap rfl;(simp;omega);rintro D A⟨v,rfl,n,c⟩;have l:cz v≠H (z<|G w):=c.ne g t;have r:aS A (R (z<|G w) 0)=H (.string d)/\aS A (R (z<|G w) 1)=H (.string e):=⟨c.cell q.1 g,c.cell q.2 g⟩;have W:z (G w)<z (G A):=(by have:=c.grown.size;omega);have K:=Y n;have O:=Y<|N.trans c;clear n c)
   |(go_at_call_of 230 v;refine(oU a v (s++[1]++dZ d) e _ ?_ (by omega) ?_ V).mono ?_;exact K.of_heap rfl;(simp[dZ,gY];omega);rintro D C⟨v3,rfl,o,f⟩;have T:aS C (R (z (G w)) 0)=H (.string d)/\aS C (R (z (G w)) 1)=H (.string e):=⟨f.cell r.1 l,f.cell r.2 l⟩;have L:=Y o;have P:=Y (O.trans f);clear o f))
  go_wp2;go_ret;refine⟨v3,rfl,?_,P.GG⟩;have Q:=af L;simpa[nP,oG,dZ,bz]using Q
 |false=>
  go_in
  go_wp2_with fail
  go_region_held3(λj=>aS j (R (z<|G w) 0)=H (am d)/\aS j (R (z<|G w) 1)=H (am e)) (first|assumption|go_keep) (first
   |(go_at_call 189;refine(tD a aa s 0 _ ?_ (by simp;omega)<|by omega).mono ?_;exact O0.of_heap rfl;rintro D x⟨u,rfl,m,b⟩;have g:cz u≠H (z<|G w):=b.ne i (by simp);have q:aS x (R (z<|G w) 0)=H (.string d)/\aS x (R (z<|G w) 1)=H (.string e):=⟨b.cell (by simp) i,b.cell (by simp) i⟩;have t:z (G w)<z (G x):=(by have:=b.grown.size;simp at this;omega);have F:=Y m;have N:=Y b;clear m b)
   |(go_at_call_of 230 u;refine(oU a u (s++[0]) d _ ?_ (by omega) ?_ S).mono ?_;exact F.of_heap rfl;(simp;omega);rintro D A⟨v,rfl,n,c⟩;have l:cz v≠H (z<|G w):=c.ne g t;have r:aS A (R (z<|G w) 0)=H (.string d)/\aS A (R (z<|G w) 1)=H (.string e):=⟨c.cell q.1 g,c.cell q.2 g⟩;have W:z (G w)<z (G A):=(by have:=c.grown.size;omega);have K:=Y n;have O:=Y<|N.trans c;clear n c)
   |(go_at_call_of 230 v;refine(oU a v (s++[0]++dZ d) e _ ?_ (by omega) ?_ V).mono ?_;exact K.of_heap rfl;(simp[dZ,gY];omega);rintro D C⟨v3,rfl,o,f⟩;have T:aS C (R (z (G w)) 0)=H (.string d)/\aS C (R (z (G w)) 1)=H (.string e):=⟨f.cell r.1 l,f.cell r.2 l⟩;have L:=Y o;have P:=Y (O.trans f);clear o f))
  go_wp2;go_ret;refine⟨v3,rfl,?_,P.GG⟩;have Q:=af L;simpa[nP,oG,dZ,bz]using Q
theorem pH{b:Bool}(h:K=b):Ending.returned (aK K)=aJ (aK b):=by rw[h]
theorem qA(s:ae)(w:Z)(f:s.size<=140737488351232):cD aZ 71 #[am s] w λe d=>e=aJ (aK<|decide<|1<=s.size/\s.size<=8)/\d=w:=by
 by_cases b:1<=s.size;(.by_cases c:s.size<=8;(·(have a:decide (1<=s.size/\s.size<=8)=ci:=by simp[b,c]);rw[a];(go_in);go_wp2;go_ret;exact⟨pH (by simp;omega),rfl⟩);(have a:decide (1<=s.size/\s.size<=8)=bj:=by simp[b,c]);rw[a];(go_in);go_wp2;go_ret;exact⟨pH (by simp;omega),rfl⟩);(have a:decide (1<=s.size/\s.size<=8)=bj:=by simp[b]);rw[a];(go_in);go_wp2;go_ret;simp_all
theorem wW(s:ae)(w:Z)(d:s.size<=140737488351232):cD aZ 72 #[am s] w λe c=>e=aJ (aK<|decide<|s.size<=16)/\c=w:=by
 by_cases b:s.size<=16;(·(have a:decide (s.size<=16)=ci:=by simp[b]);rw[a];(go_in);go_wp2;go_ret;exact⟨pH (by simp;omega),rfl⟩);(have a:decide (s.size<=16)=bj:=by simp[b]);rw[a];(go_in);go_wp2;go_ret;exact⟨pH (by simp;omega),rfl⟩
structure E.Good(x:E):Prop where
 Tz:1<=x.key.size
 KN:x.key.size<=8
 val:x.val.size<=16
 del:x.del=ci->x.val=⟨#[]⟩
 b0:0<=x.bJ
 b1:x.bJ<18446744073709551616
theorem mz(a b:dN):jv (a++b) bj (y a)=(b,bj,a):=by
 unfold jv;rw[eI<|by simp];simp
def uY(s:ae)(b:dN):CU (dZ s++b) bj=(b,bj,kM s)/\num (dZ s++b) bj 1=s.size:=by
 have a:jv (dZ s++b) bj 1=(kM s++b,bj,[(s.size:U)]):=by have:=mz [(s.size:U)]<|kM s++b;simpa[dZ]using this
 have c:num (dZ s++b) bj 1=s.size:=by unfold num;rw[a];simp[kI]
 refine⟨?_,c⟩;unfold CU;grind[mz,gY]
def KL(d:Bool)(b:dN):jv (oG d::b) bj 1=(b,bj,[oG d])/\num (oG d::b) bj 1=oG d:=by
 have h:=mz [oG d] b;have a:jv (oG d::b) bj 1=(b,bj,[oG d]):=by simpa using h
 exact⟨a,by unfold num;rw[a];simp[kI]⟩
def IQ(b c:ae):(b==c)=decide (b=c):=by
 obtain⟨x⟩:=b;obtain⟨a⟩:=c;show(x==a)=_;by_cases h:x=a;simp[h];simp[h]
abbrev eY:=cS<|ae×ab
def eY.get(m:eY)(k:ae):Option ab:=match m with
 |[]=>none
 |p::r=>if p.1=k then H p.2 else eY.get r k
def Fits(a:cS MapEntry)(m:eY):Prop:=a.map (λe=>(e.key,e.val))=m.map (λp=>(am p.1,p.2))
def Fits.cons_inv{e:MapEntry}{a:cS MapEntry}{m:eY}(h:Fits (e::a) m):∃p r,m=p::r/\e.key=am p.1/\e.val=p.2/\Fits a r:=by
 cases m with
 |nil=>simp[Fits]at h
 |cons p r=>
  simp[Fits]at h;exact⟨p,r,rfl,h.1.1,h.1.2,h.2⟩
def It(k:ae):∀(a:cS MapEntry)(m:eY)(i:M),Fits a m->∃l,Instr.findNow .string (am k) a i=H ((m.get k).map λv=>(l,v)):=by
 intro a;induction a with
 |nil=>
  intro m i h;obtain rfl:m=[]:=by simpa[Fits]using h
  exact⟨0,rfl⟩
 |cons n a j=>
  intro m i h;obtain⟨p,r,rfl,c,g,f⟩:=h.cons_inv;by_cases d:p.1=k
  .refine⟨i,?_⟩;simp[Instr.findNow,Instr.sameNow,c,eY.get,d,g,IQ]
  .obtain⟨l,e⟩:=j r (i+1) f;refine⟨l,?_⟩;have b:(k==p.1)=bj:=by rw[IQ];grind
   simp[Instr.findNow,Instr.sameNow,c,eY.get,d,b,e]
def gl(w:Z)(c:M)(m:eY):Prop:=∃b a,w.heap[c]?=H (.map b a)/\Fits b.toList m/\MapKept.Stamped b a
def qW{P:Program}{mt l i n:M}{m:eY}{u:TypeInfo}(s:P.underlying mt=H (.map l i))(j:P.underlying l=H .string)(q:P.info? i=H u)(t:u.zero=H d)(v:gl a n m)(k:ae):(Instr.lookup mt (.map<|H n) (am k) bj).run P a=.ok ((m.get k).getD d) a:=by
 obtain⟨c,b,p,o,_⟩:=v;obtain⟨w,r⟩:=It k c.toList m 0 o;have e:=eM (P:=P) (w:=a) (k:=am k) j (by trivial) c.isEmpty 9999;have g:=eJ (P:=P) (w:=a) j r;have h:(getObj n).run P a=.ok (.map c b) a:=by simp[getObj,Sem.run,p]
 unfold Instr.lookup;rw[kB,ep s];simp only[jW,kB,h,rN];rw[show(10000:M)=9999+1 from rfl,e];simp only[jW,g];cases hg:m.get k with
 |none=>simp[zeroValue,typeInfo,q,t]
 |some x=>simp
section
open ChangeMaps (setBlock)
def eY.put(m:eY)(k:ae)(v:ab):eY:=match m with
 |[]=>[(k,v)]
 |p::r=>if p.1=k then(k,v)::r else p::eY.put r k v
def eY.del(m:eY)(k:ae):eY:=match m with
 |[]=>[]
 |p::r=>if p.1=k then r else p::eY.del r k
theorem Fits.cons{e:MapEntry}{b:cS MapEntry}{p:ae×ab}{m:eY}(d:e.key=am p.1)(f:e.val=p.2)(h:Fits b m):Fits (e::b) (p::m):=by
 simp[Fits,d,f];exact h
theorem Gu(k:ae):∀(d:cS MapEntry)(m:eY)(q:M),Fits d m->(Instr.findNow .string (am k) d q=H none/\m.get k=none/\(∀e∈d,e.key≠am k)/\m.del k=m/\∀v,m.put k v=m++[(k,v)])\/∃r e,Instr.findNow .string (am k) d q=H (H (q+r,e.val))/\d[r]?=H e/\e.key=am k/\m.get k=H e.val/\(∀v,Fits (d.modify r λe=>{e with key:=am k,val:=v})<|m.put k v)/\Fits (d.eraseIdx r) (m.del k):=by
 intro d;induction d with
 |nil=>
  intro m q u;obtain rfl:m=[]:=by simpa[Fits]using u
  exact .inl ⟨rfl,rfl,by simp,rfl,λ_=>rfl⟩
 |cons e d A=>
  intro m q u;obtain⟨B,C,rfl,f,p,n⟩:=u.cons_inv;by_cases b:B.1=k
  .refine .inr ⟨0,e,?_,rfl,by rw[f,b],?_,?_,?_⟩
   .simp[Instr.findNow,Instr.sameNow,f,b,IQ]
   .simp[eY.get,b,p]
   .intro v;simp only[eY.put,b,lk,pY];exact Fits.cons rfl rfl n
   .simpa[eY.del,b]using n
  .have g:(k==B.1)=bj:=by rw[IQ];grind
   rcases A C (q+1) n with⟨h,i,s,j,l⟩|⟨r,t,h,i,s,j,l,x⟩
   .refine .inl ⟨?_,?_,?_,?_,?_⟩
    .simp[Instr.findNow,Instr.sameNow,f,g,h]
    .simp[eY.get,b,i]
    .grind
    .simp[eY.del,b,j]
    .intro v;simp[eY.put,b,l]
   .refine .inr ⟨r+1,t,?_,by simpa using i,s,?_,?_,?_⟩
    .simp[Instr.findNow,Instr.sameNow,f,g,h];omega
    .simp[eY.get,b,j]
    .intro v;simp only[eY.put,b,nj,pZ];exact Fits.cons f p<|l v
    .simp only[eY.del,b,nj,ur];exact Fits.cons f p x
theorem iN(w:Z)(d:M)(o:Obj):w.grownBy (setBlock w d o) (H d):=⟨rfl,rfl,rfl,by simp[setBlock],λk _ b=>by
 simp only[setBlock];rw[Array.getElem?_setIfInBounds_ne (λe=>b (by rw[e]))]⟩
theorem BM{P:Program}{w:Z}{mt v A p:M}{B:eY}(u:P.underlying mt=H (.map v A))(h:P.underlying v=H .string)(E:gl w p B)(k:ae)(x:ab):∃i,(Instr.mapUpdate mt (.map<|H p) (am k) x).run P w=.ok () i/\gl i p (B.put k x)/\w.grownBy i (H p)/\z (G i)=z (G w):=by
 obtain⟨g,b,f,n,t⟩:=E;have d:=jc (P:=P) f;rcases Gu k g.toList B 0 n with⟨j,q,l,_,r⟩|⟨C,e,j,q,l,F,r,_⟩;refine⟨setBlock w p<|.map (g.push {key:=am k,val:=x,born:=b})<|b+1,?_,?_,iN _ _ _,by simp[setBlock]⟩;simp[Instr.mapUpdate,ep u,d,eM h (show MapKept.IsKey .string (am k)by trivial),eJ h j,fA _ f,Result.andThen,setBlock];refine⟨_,_,(fG f).1,?_,qU t l⟩;rw[r];simp[Fits]at n|-;exact n;(have s:g[C]?=H e:=by simpa using q);refine⟨setBlock w p<|.map (g.modify C λe=>{e with key:=am k,val:=x}) b,?_,?_,iN _ _ _,by simp[setBlock]⟩;simp[Instr.mapUpdate,ep u,d,eM h (show MapKept.IsKey .string (am k)by trivial),eJ h j,s,l,og (show MapKept.IsKey .string (am k)by trivial),fA _ f,Result.andThen,setBlock];refine⟨_,_,(fG f).1,?_,pu t _ _ (λ_ _=>rfl) (λD _ m=>by rw[s]at m;grind)⟩;grind
theorem JF{P:Program}{w:Z}{mt k s l:M}{A:eY}(q:P.underlying mt=H (.map k s))(g:P.underlying k=H .string)(D:gl w l A)(r:ae)(B:TypeId):∃h,(Builtin.delete_ #[mt,k] B #[.map<|H l,am r]).run P w=.ok (dd #[]) h/\gl h l (A.del r)/\w.grownBy h (H l)/\z (G h)=z (G w):=by
 obtain⟨d,b,f,n,p⟩:=D;have e:=jc (P:=P) f;rcases Gu r d.toList A 0 n with⟨i,j,t,m,u⟩|⟨x,C,i,j,t,m,u,E⟩;refine⟨setBlock w l<|.map d b,?_,?_,iN _ _ _,by simp[setBlock]⟩;simp[Builtin.delete_,ep q,e,eM g (show MapKept.IsKey .string (am r)by trivial),eJ g i,fA _ f,Result.andThen,setBlock];rw[m];exact⟨_,_,(fG f).1,n,p⟩;(have F:d[x]?=H C:=by simpa using j);(have v:x<d.size:=by have:=jt.1 j;grind);refine⟨setBlock w l<|.map (d.eraseIdxIfInBounds x) b,?_,?_,iN _ _ _,by simp[setBlock]⟩;simp[Builtin.delete_,ep q,e,eM g (show MapKept.IsKey .string (am r)by trivial),eJ g i,fA _ f,Result.andThen,setBlock];refine⟨_,_,(fG f).1,?_,vQ p _⟩;simp_all
theorem gl.kept{w h:Z}{i:M}{n:eY}{d:Option M}(p:gl w i n)(l:w.grownBy h d)(e:H i≠d):gl h i n:=by
 obtain⟨j,b,g,k,m⟩:=p;exact⟨j,b,(l.block i (ar g) e).trans g,k,m⟩
theorem gl.alloc{w:Z}{b:M}{m:eY}(h:gl w b m)(o:Obj):gl (cG w o) b m:=h.kept (dy w o none)<|by simp
theorem gl.lt{w:Z}{b:M}{m:eY}(h:gl w b m):b<z (G w):=by
 obtain⟨_,_,d,_⟩:=h;exact ar d
section
variable{P:Program}(w:Z){c:Array Oper}{rest:cS Oper}{o:Oper}{a:Act}{Q:Exit->Act->Z->Prop}
theorem wl(m:o.guard=none)(i B j:Operand)(A:TypeId)(h:o.op=Op.mapUpdate A i B j)(v D:TypeId)(q:P.underlying A=H (.map v D))(n:P.underlying v=H .string)(k:M)(x:eY)(p:a.eval i=.map (H k))(E:gl w k x)(b:ae)(d:ab)(s:a.eval B=am b)(r:a.eval j=d)(l:∀f,gl f k (x.put b d)->w.grownBy f (H k)->wpList P c Q rest (a.put o.dst ix) f):wpList P c Q (o::rest) a w:=by
 refine kA m λC g=>?_;obtain⟨f,e,t,u,_⟩:=BM q n E b d;unfold Oper.wp;simp[execOp,h,p,s,r,e,Result.andThen];exact g _ _<|l f t u
theorem CO(k:o.guard=none)(h x:Operand)(u q:TypeId)(g:o.op=Op.call {callee:=Callee.builtin Builtin.delete,args:=#[h,x],argTypes:=#[u,q]})(A:TypeId)(n:P.underlying u=H (.map q A))(l:P.underlying q=H .string)(i:M)(t:eY)(m:a.eval h=.map (H i))(B:gl w i t)(b:ae)(p:a.eval x=am b)(j:∀e,gl e i (t.del b)->w.grownBy e (H i)->wpList P c Q rest (a.put o.dst<|dd #[]) e):wpList P c Q (o::rest) a w:=by
 refine kA k λv f=>?_;obtain⟨e,d,r,s,_⟩:=JF n l B b o.type;unfold Oper.wp;simp[execOp,g,resolve,invoke,builtin,m,p,d,Result.andThen];exact f _ _<|j e r s
end
end
def rh:(prog.info? 74).map (λi=>(i.zero,i.size,i.bytes))=H (H<|dF none,1,8):=by kernel_rfl
def mW(w:Z)(e g d:M)(f:ab)(c b a:U):Prop:=w.heap[e]?=H (ay #[.map<|H g,.map<|H d,f,aq c,aq 0,aq 0,aq b,aq a] 72 (0,0))
def xU(h:mW a b c g d k D S):cD aZ 134 #[aA b] a λj i=>j=aJ (aK bj)/\i=a:=by
 have e:=cellAt h 4 rfl;have f:=cellAt h 5 rfl;clear h;go_in
 go_wp2;go_ret;simp_all
def uJ(s:eY)(e:ae)(q:Addr)(h:mW a b c g d k D S)(m:gl a c s)(j:s.get e=H (dF<|H q)):cD aZ 133 #[aA b,am e] a λr p=>r=aJ (dd #[dF<|H q,.nilIface])/\p=a:=by
 obtain⟨t,o,i,_,_⟩:=cU rh;have l:=qW underlying69 underlying9 o i m e;rw[j]at l;simp only[lP]at l;have n:=cellAt h 0 rfl;have f:=Y h;clear h m j;go_in
 go_wp2_with(first
  |(go_at_call 134;refine(xU f).mono ?_;rintro r u⟨rfl,rfl⟩))
 go_ret2
 simp_all
def QZ(r:eY)(e:ae)(h:mW a b c g d k D S)(m:gl a c r)(j:r.get e=none):cD aZ 133 #[aA b,am e] a λq p=>q=aJ (dd #[dF none,.iface 202<|aA<|z<|G a])/\p=cG a (ay #[am e,aq 10] 204):=by
 obtain⟨s,o,i,_,_⟩:=cU rh;have l:=qW underlying69 underlying9 o i m e;rw[j]at l;simp only[Option.getD_none]at l;have n:=cellAt h 0 rfl;have f:=Y h;clear h m j;go_in
 go_wp2_with(first
  |(go_at_call 134;refine(xU f).mono ?_;rintro q t⟨rfl,rfl⟩))
 go_ret2
 simp_all
structure IY(w:Z)(g:M)(bs:dN)(safe:U):Prop where
 iy:∃v,w.heap[g]?=H (ay #[v,aq safe] 78 (0,0))/\Bytes w v bs/\cz v≠H g
def Bytes.shape(h:Bytes a d n):d=aw/\n=[]\/∃f b c,d=aY f b (y n) c/\y n<=c:=by
 rcases h with h|⟨f,b,c,h,e,_⟩;exact .inl h;grind
def Sr(w:eY)(e:ae)(t:M)(i:dN)(f:U)(h:mW a b c g d k D S)(p:gl a c w)(n:w.get e=H (aA t))(q:IY a t i f)(B:y i<=140737488351232):cD aZ 96 #[aA b,am e] a λA x=>A=aJ (dd #[aq<|y i,.nilIface])/\x=a:=by
 obtain⟨F,o,m,_⟩:=q.iy;have u:=cellAt o 0 rfl;have r:=Y<|uJ w e (R t 0) h p n;have j:=m.shape;clear q o m h p n;rcases j with⟨rfl,rfl⟩|⟨E,l,s,rfl,v⟩
 all_goals
  go_in
  go_wp2_with(first
   |(go_at_call 133;refine r.mono ?_;rintro A C⟨rfl,rfl⟩))
  go_ret2
  simp_all
def Px(m:eY)(e:ae)(h:mW a b c g d k D S)(i:gl a c m)(f:m.get e=none):cD aZ 96 #[aA b,am e] a λn l=>n=aJ (dd #[aq 0,.iface 202<|aA<|z<|G a])/\l=cG a (ay #[am e,aq 10] 204):=by
 have j:=Y<|QZ m e h i f;clear h i f;go_in
 go_wp2_with(first
  |(go_at_call 133;refine j.mono ?_;rintro n o⟨rfl,rfl⟩))
 go_ret2
 simp_all
def Sk(F:eY)(e:ae)(n:M)(f:dN)(m:U)(h:mW a b c g d k D S)(s:gl a c F)(r:F.get e=H (aA n))(t:IY a n f m)(L:y f<=140737488351232):cD aZ 78 #[aA b,am e] a λK u=>K=aJ .nilIface/\IY u n f (y f)/\u=cA a (R n 1) (aq<|y f):=by
 obtain⟨N,l,o,j⟩:=t.iy;have A:=cellAt l 0 rfl;have C:=cZ (i:=1) l;have B:=cellAt l 1 rfl;have w:=Y<|uJ F e (R n 0) h s r;have v:=Y<|show IY (cA a (R n 1)<|aq<|y f) n f (y f)from⟨N,by rw[aL l];rfl,o.grown (du a n 1 _)<|.inl j,j⟩;have p:=o.shape;clear t l o h s r j;rcases p with⟨rfl,rfl⟩|⟨P,q,x,rfl,E⟩
 all_goals
  go_in
  go_wp2_with(first
   |(go_at_call 133;refine w.mono ?_;rintro K O⟨rfl,rfl⟩))
  go_ret;exact⟨rfl,v,rfl⟩
section
open ChangeMaps (setBlock)
def pj(w:Z)(h r:M)(m left:eY):Prop:=∃e d b seen g,w.heap[h]?=H (.map e d)/\Fits e.toList m/\MapKept.Stamped e d/\w.heap[r]?=H (.mapIter (H h) b seen g)/\(∀x∈e.toList,x.born<b)/\b<=g/\b<=d/\Fits (leftOf e seen).toList left
theorem pj.ne{w:Z}{d r:M}{m left:eY}(h:pj w d r m left):r≠d:=by
 obtain⟨e,b,_,_,_,g,_,_,i,_⟩:=h;grind
theorem pj.lt{w:Z}{b r:M}{m left:eY}(h:pj w b r m left):r<z (G w):=by
 obtain⟨g,d,_,_,_,_,_,_,e,_⟩:=h;exact ar e
theorem pj.kept{w e:Z}{g r:M}{s left:eY}(t:pj w g r s left)(p:e.heap[g]?=w.heap[g]?)(q:e.heap[r]?=w.heap[r]?):pj e g r s left:=by
 obtain⟨i,b,d,seen,h,j,k,l,m,n⟩:=t;exact⟨i,b,d,seen,h,p.trans j,k,l,q.trans m,n⟩
theorem Fits.split{e:cS MapEntry}{n:eY}{d b:cS MapEntry}{h:MapEntry}(i:Fits e n)(m:e=d++h::b):∃a p g,n=a++p::g/\Fits d a/\h.key=am p.1/\h.val=p.2/\Fits b g:=by
 subst m;unfold Fits at i;rw[aR,cr]at i;obtain⟨a,q,rfl,j,k⟩:=iz.1 i.symm;obtain⟨p,g,rfl,f,l⟩:=nn.1 k;exact⟨a,p,g,rfl,j.symm,(bQ Prod.fst f).symm,(bQ Prod.snd f).symm,l.symm⟩
theorem Fits.append{b d:cS MapEntry}{m n:eY}(h:Fits b m)(k:Fits d n):Fits (b++d) (m++n):=by
 unfold Fits at*;rw[aR,aR,h,k]
theorem Gg{d:Array MapEntry}{seen:Array M}{f e:cS MapEntry}{g:MapEntry}(l:(d.toList.map (·.born)).Nodup)(i:(leftOf d seen).toList=f++g::e):(leftOf d<|seen.push g.born).toList=f++e:=by
 have h:(leftOf d<|seen.push g.born).toList=(leftOf d seen).toList.filter (λx=>!(x.born==g.born)):=by simp only[leftOf,Array.toList_filter,List.filter_filter];grind
 have b:((leftOf d seen).toList.map (·.born)).Nodup:=by(have:(leftOf d seen).toList.Sublist d.toList:=by simp[leftOf]);grind
 rw[h,i];rw[i]at b;simp only[aR,cr]at b;obtain⟨_,j,k⟩:=jd.1 b;grind[nodup_cons,filter_cons_of_neg,filter_eq_self]
theorem MD{P:Program}{w:Z}{mt k h g:M}{m:eY}(l:P.underlying mt=H (.map k h))(n:gl w g m):∃e,(Instr.range mt<|.map<|H g).run P w=.ok (aA<|z<|G w) e/\pj e g (z<|G w) m m/\w.grownBy e none/\z (G e)=z (G w)+1:=by
 obtain⟨d,b,f,i,j⟩:=n;refine⟨_,run_range_map w mt k h g d b l f,⟨d,b,b,#[],b,((oB w _).2 g<|ar f).trans f,i,j,(oB w _).1,j.1,ai _,ai _,?_⟩,dy w _ none,by simp⟩;have:leftOf d #[]=d:=by simp[leftOf]
 rw[this];exact i
theorem PD{P:Program}{w:Z}{v r:M}{ac left:eY}(aa:pj w v r ac left)(N:TypeId):(left=[]/\(Instr.next (aA r) bj N).run P w=.ok (dd #[aK bj]) w)\/∃m L g p,left=m++L::g/\(Instr.next (aA r) bj N).run P w=.ok (dd #[aK ci,am L.1,L.2]) p/\pj p v r ac (m++g)/\w.grownBy p (H r)/\z (G p)=z (G w)/\(Instr.entry<|aA r).run P p=.ok (dd #[am L.1,L.2]) p:=by
 have D:=aa.ne;obtain⟨l,b,d,seen,O,S,hf,E,T,k,F,t,C⟩:=aa;rcases run_next_at (P:=P) w N r v d O seen l b T S k F with⟨h0,f⟩|⟨x,he,A,h,f⟩;refine .inl ⟨?_,f⟩;(have:(leftOf l seen).toList=[]:=by grind);rw[this]at C;simpa[Fits]using C;obtain⟨m,g,u⟩:=so he;obtain⟨a,L,ad,rfl,W,n,V,X⟩:=C.split u;(have i:A.heap=w.heap:=by rcases h with rfl|rfl<;>rfl);(have s:A.heap[r]?=H (.mapIter (H v) d seen O):=by rw[i];exact T);have j:(setBlock A r<|.mapIter (H v) d (seen.push x.born) b).heap[r]?=H (.mapIter (H v) d (seen.push x.born) b):=(fG s).1;have e:∀K,K≠r->(setBlock A r<|.mapIter (H v) d (seen.push x.born) b).heap[K]?=w.heap[K]?:=λK n=>((fG s).2 K n).trans (by rw[i]);have q:=(e v<|λx=>D x.symm).trans S;(have B:x∈l.toList:=by(have:(leftOf l seen).toList.Sublist l.toList:=by simp[leftOf]);grind);refine .inr ⟨a,L,ad,_,rfl,by rw[<-n,<-V];exact f,⟨l,b,d,_,b,q,hf,E,j,k,t,t,by rw[Gg E.2.1 u];exact W.append X⟩,⟨?_,?_,?_,?_,λK _ n=>e K<|λx=>n<|by rw[x]⟩,?_,?_⟩;rcases h with rfl|rfl<;>rfl;rcases h with rfl|rfl<;>rfl;rcases h with rfl|rfl<;>rfl;simp[setBlock,i];simp[setBlock,i];rw[<-n,<-V];exact run_entry_at _ r v d seen l b x j q B E.2.1
section
variable{P:Program}(w:Z){c:Array Oper}{rest:cS Oper}{o:Oper}{a:Act}{Q:Exit->Act->Z->Prop}
theorem qJ(k:o.guard=none)(h:Operand)(t:TypeId)(g:o.op=Op.range t h)(x u:TypeId)(m:P.underlying t=H (.map x u))(i:M)(n:eY)(l:a.eval h=.map (H i))(v:gl w i n)(j:∀b,pj b i (z<|G w) n n->w.grownBy b none->z (G b)=z (G w)+1->wpList P c Q rest (a.put o.dst<|aA<|z<|G w) b):wpList P c Q (o::rest) a w:=by
 refine kA k λs e=>?_;obtain⟨b,d,p,q,r⟩:=MD m v;unfold Oper.wp;simp[execOp,g,l,d,Result.andThen];exact e _ _<|j b p q r
theorem pF(u:o.guard=none)(l:Operand)(k:o.op=Op.next l bj)(x r:M)(A left:eY)(ri:a.eval l=aA r)(C:pj w x r A left)(h:left=[]->wpList P c Q rest (a.put o.dst<|dd #[aK bj]) w)(i:∀e p b g,left=e++p::b->pj g x r A (e++b)->w.grownBy g (H r)->z (G g)=z (G w)->(Instr.entry<|aA r).run P g=.ok (dd #[am p.1,p.2]) g->wpList P c Q rest (a.put o.dst<|dd #[aK ci,am p.1,p.2]) g):wpList P c Q (o::rest) a w:=by
 refine kA u λB j=>?_;unfold Oper.wp;rcases PD (P:=P) C o.type with⟨m,d⟩|⟨e,p,b,g,v,d,n,q,s,t⟩;simp[execOp,k,ri,d,Result.andThen];exact j _ _<|h m;simp[execOp,k,ri,d,Result.andThen];exact j _ _<|i e p b g v n q s t
end
end
section
open ChangeMaps (setBlock)
abbrev gz:=cS<|U×ab
def gz.get(m:gz)(k:U):Option ab:=match m with
 |[]=>none
 |p::r=>if p.1=k then H p.2 else gz.get r k
def js(b:cS MapEntry)(m:gz):Prop:=b.map (λe=>(e.key,e.val))=m.map (λp=>(aq p.1,p.2))
theorem js.nil:js [] []:=rfl
theorem js.cons_inv{e:MapEntry}{b:cS MapEntry}{m:gz}(h:js (e::b) m):∃p r,m=p::r/\e.key=aq p.1/\e.val=p.2/\js b r:=by
 cases m with
 |nil=>simp[js]at h
 |cons p r=>
  simp[js]at h;exact⟨p,r,rfl,h.1.1,h.1.2,h.2⟩
theorem Fh(k:U):∀(b:cS MapEntry)(m:gz)(i:M),js b m->∃p,Instr.findNow (.int .i64) (aq k) b i=H ((m.get k).map λv=>(p,v)):=by
 intro b;induction b with
 |nil=>
  intro m i h;obtain rfl:m=[]:=by simpa[js]using h
  exact⟨0,rfl⟩
 |cons s b n=>
  intro m i h;obtain⟨q,r,rfl,e,l,j⟩:=h.cons_inv;by_cases f:q.1=k
  .refine⟨i,?_⟩;simp[Instr.findNow,Instr.sameNow,e,gz.get,f,l]
  .obtain⟨p,g⟩:=n r (i+1) j;refine⟨p,?_⟩;have d:(k==q.1)=bj:=by grind
   simp[Instr.findNow,Instr.sameNow,e,gz.get,f,d,g]
def kN(w:Z)(e:M)(m:gz):Prop:=∃d b,w.heap[e]?=H (.map d b)/\js d.toList m/\MapKept.Stamped d b
def gz.put(m:gz)(k:U)(v:ab):gz:=match m with
 |[]=>[(k,v)]
 |p::r=>if p.1=k then(k,v)::r else p::gz.put r k v
def gz.del(m:gz)(k:U):gz:=match m with
 |[]=>[]
 |p::r=>if p.1=k then r else p::gz.del r k
theorem js.cons{e:MapEntry}{b:cS MapEntry}{p:U×ab}{m:gz}(d:e.key=aq p.1)(f:e.val=p.2)(h:js b m):js (e::b) (p::m):=by
 simp[js,d,f];exact h
theorem En(k:U):∀(d:cS MapEntry)(m:gz)(q:M),js d m->(Instr.findNow (.int .i64) (aq k) d q=H none/\m.get k=none/\(∀e∈d,e.key≠aq k)/\m.del k=m/\∀v,m.put k v=m++[(k,v)])\/∃r e,Instr.findNow (.int .i64) (aq k) d q=H (H (q+r,e.val))/\d[r]?=H e/\e.key=aq k/\m.get k=H e.val/\(∀v,js (d.modify r λe=>{e with key:=aq k,val:=v})<|m.put k v)/\js (d.eraseIdx r) (m.del k):=by
 intro d;induction d with
 |nil=>
  intro m q u;obtain rfl:m=[]:=by simpa[js]using u
  exact .inl ⟨rfl,rfl,by simp,rfl,λ_=>rfl⟩
 |cons e d A=>
  intro m q u;obtain⟨B,C,rfl,f,p,n⟩:=u.cons_inv;by_cases b:B.1=k
  .refine .inr ⟨0,e,?_,rfl,by rw[f,b],?_,?_,?_⟩
   .simp[Instr.findNow,Instr.sameNow,f,b]
   .simp[gz.get,b,p]
   .intro v;simp only[gz.put,b,lk,pY];exact js.cons rfl rfl n
   .simpa[gz.del,b]using n
  .have g:(k==B.1)=bj:=by grind
   rcases A C (q+1) n with⟨h,i,s,j,l⟩|⟨r,t,h,i,s,j,l,x⟩
   .refine .inl ⟨?_,?_,?_,?_,?_⟩
    .simp[Instr.findNow,Instr.sameNow,f,g,h]
    .simp[gz.get,b,i]
    .grind
    .simp[gz.del,b,j]
    .intro v;simp[gz.put,b,l]
   .refine .inr ⟨r+1,t,?_,by simpa using i,s,?_,?_,?_⟩
    .simp[Instr.findNow,Instr.sameNow,f,g,h];omega
    .simp[gz.get,b,j]
    .intro v;simp only[gz.put,b,nj,pZ];exact js.cons f p<|l v
    .simp only[gz.del,b,nj,ur];exact js.cons f p x
theorem Wl{P:Program}{w:Z}{mt v A p:M}{B:gz}(u:P.underlying mt=H (.map v A))(h:P.underlying v=H (.int .i64))(E:kN w p B)(k:U)(x:ab):∃i,(Instr.mapUpdate mt (.map<|H p) (aq k) x).run P w=.ok () i/\kN i p (B.put k x)/\w.grownBy i (H p)/\z (G i)=z (G w):=by
 obtain⟨g,b,f,n,t⟩:=E;have d:=jc (P:=P) f;rcases En k g.toList B 0 n with⟨j,q,l,_,r⟩|⟨C,e,j,q,l,F,r,_⟩;refine⟨setBlock w p<|.map (g.push {key:=aq k,val:=x,born:=b})<|b+1,?_,?_,iN _ _ _,by simp[setBlock]⟩;simp[Instr.mapUpdate,ep u,d,eM h (show MapKept.IsKey (.int .i64) (aq k)by rfl),eJ h j,fA _ f,Result.andThen,setBlock];refine⟨_,_,(fG f).1,?_,qU t l⟩;rw[r];simp[js]at n|-;exact n;(have s:g[C]?=H e:=by simpa using q);refine⟨setBlock w p<|.map (g.modify C λe=>{e with key:=aq k,val:=x}) b,?_,?_,iN _ _ _,by simp[setBlock]⟩;simp[Instr.mapUpdate,ep u,d,eM h (show MapKept.IsKey (.int .i64) (aq k)by rfl),eJ h j,s,l,og (show MapKept.IsKey (.int .i64) (aq k)by rfl),fA _ f,Result.andThen,setBlock];refine⟨_,_,(fG f).1,?_,pu t _ _ (λ_ _=>rfl) (λD _ m=>by rw[s]at m;grind)⟩;grind
theorem JG{P:Program}{w:Z}{mt k s l:M}{A:gz}(q:P.underlying mt=H (.map k s))(g:P.underlying k=H (.int .i64))(D:kN w l A)(r:U)(B:TypeId):∃h,(Builtin.delete_ #[mt,k] B #[.map<|H l,aq r]).run P w=.ok (dd #[]) h/\kN h l (A.del r)/\w.grownBy h (H l)/\z (G h)=z (G w):=by
 obtain⟨d,b,f,n,p⟩:=D;have e:=jc (P:=P) f;rcases En r d.toList A 0 n with⟨i,j,t,m,u⟩|⟨x,C,i,j,t,m,u,E⟩;refine⟨setBlock w l<|.map d b,?_,?_,iN _ _ _,by simp[setBlock]⟩;simp[Builtin.delete_,ep q,e,eM g (show MapKept.IsKey (.int .i64) (aq r)by rfl),eJ g i,fA _ f,Result.andThen,setBlock];rw[m];exact⟨_,_,(fG f).1,n,p⟩;(have F:d[x]?=H C:=by simpa using j);(have v:x<d.size:=by have:=jt.1 j;grind);refine⟨setBlock w l<|.map (d.eraseIdxIfInBounds x) b,?_,?_,iN _ _ _,by simp[setBlock]⟩;simp[Builtin.delete_,ep q,e,eM g (show MapKept.IsKey (.int .i64) (aq r)by rfl),eJ g i,fA _ f,Result.andThen,setBlock];refine⟨_,_,(fG f).1,?_,vQ p _⟩;simp_all
theorem kN.kept{w h:Z}{i:M}{n:gz}{d:Option M}(p:kN w i n)(l:w.grownBy h d)(e:H i≠d):kN h i n:=by
 obtain⟨j,b,g,k,m⟩:=p;exact⟨j,b,(l.block i (ar g) e).trans g,k,m⟩
theorem kN.alloc{w:Z}{b:M}{m:gz}(h:kN w b m)(o:Obj):kN (cG w o) b m:=h.kept (dy w o none)<|by simp
theorem kN.lt{w:Z}{b:M}{m:gz}(h:kN w b m):b<z (G w):=by
 obtain⟨_,_,d,_⟩:=h;exact ar d
section
variable{P:Program}(w:Z){c:Array Oper}{rest:cS Oper}{o:Oper}{a:Act}{Q:Exit->Act->Z->Prop}
theorem Sa(k:o.guard=none)(h x:Operand)(u q:TypeId)(g:o.op=Op.call {callee:=Callee.builtin Builtin.delete,args:=#[h,x],argTypes:=#[u,q]})(A:TypeId)(n:P.underlying u=H (.map q A))(l:P.underlying q=H (.int .i64))(i:M)(t:gz)(m:a.eval h=.map (H i))(B:kN w i t)(b:U)(p:a.eval x=aq b)(j:∀e,kN e i (t.del b)->w.grownBy e (H i)->wpList P c Q rest (a.put o.dst<|dd #[]) e):wpList P c Q (o::rest) a w:=by
 refine kA k λv f=>?_;obtain⟨e,d,r,s,_⟩:=JG n l B b o.type;unfold Oper.wp;simp[execOp,g,resolve,invoke,builtin,m,p,d,Result.andThen];exact f _ _<|j e r s
end
def pR(w:Z)(g r:M)(m left:gz):Prop:=∃e d b seen f,w.heap[g]?=H (.map e d)/\js e.toList m/\MapKept.Stamped e d/\w.heap[r]?=H (.mapIter (H g) b seen f)/\(∀x∈e.toList,x.born<b)/\b<=f/\b<=d/\js (leftOf e seen).toList left
theorem pR.ne{w:Z}{d r:M}{m left:gz}(h:pR w d r m left):r≠d:=by
 obtain⟨e,b,_,_,_,g,_,_,i,_⟩:=h;grind
theorem pR.lt{w:Z}{b r:M}{m left:gz}(h:pR w b r m left):r<z (G w):=by
 obtain⟨g,d,_,_,_,_,_,_,e,_⟩:=h;exact ar e
theorem pR.kept{w e:Z}{g r:M}{s left:gz}(t:pR w g r s left)(p:e.heap[g]?=w.heap[g]?)(q:e.heap[r]?=w.heap[r]?):pR e g r s left:=by
 obtain⟨i,b,d,seen,h,j,k,l,m,n⟩:=t;exact⟨i,b,d,seen,h,p.trans j,k,l,q.trans m,n⟩
theorem js.split{e:cS MapEntry}{n:gz}{d b:cS MapEntry}{h:MapEntry}(i:js e n)(m:e=d++h::b):∃a p g,n=a++p::g/\js d a/\h.key=aq p.1/\h.val=p.2/\js b g:=by
 subst m;unfold js at i;rw[aR,cr]at i;obtain⟨a,q,rfl,j,k⟩:=iz.1 i.symm;obtain⟨p,g,rfl,f,l⟩:=nn.1 k;exact⟨a,p,g,rfl,j.symm,(bQ Prod.fst f).symm,(bQ Prod.snd f).symm,l.symm⟩
theorem js.append{b d:cS MapEntry}{m n:gz}(h:js b m)(k:js d n):js (b++d) (m++n):=by
 unfold js at*;rw[aR,aR,h,k]
theorem ME{P:Program}{w:Z}{mt k h g:M}{m:gz}(l:P.underlying mt=H (.map k h))(n:kN w g m):∃e,(Instr.range mt<|.map<|H g).run P w=.ok (aA<|z<|G w) e/\pR e g (z<|G w) m m/\w.grownBy e none/\z (G e)=z (G w)+1:=by
 obtain⟨d,b,f,i,j⟩:=n;refine⟨_,run_range_map w mt k h g d b l f,⟨d,b,b,#[],b,((oB w _).2 g<|ar f).trans f,i,j,(oB w _).1,j.1,ai _,ai _,?_⟩,dy w _ none,by simp⟩;have:leftOf d #[]=d:=by simp[leftOf]
 rw[this];exact i
theorem PE{P:Program}{w:Z}{v r:M}{ac left:gz}(aa:pR w v r ac left)(N:TypeId):(left=[]/\(Instr.next (aA r) bj N).run P w=.ok (dd #[aK bj]) w)\/∃m L g p,left=m++L::g/\(Instr.next (aA r) bj N).run P w=.ok (dd #[aK ci,aq L.1,L.2]) p/\pR p v r ac (m++g)/\w.grownBy p (H r)/\z (G p)=z (G w)/\(Instr.entry<|aA r).run P p=.ok (dd #[aq L.1,L.2]) p:=by
 have D:=aa.ne;obtain⟨l,b,d,seen,O,S,hf,E,T,k,F,t,C⟩:=aa;rcases run_next_at (P:=P) w N r v d O seen l b T S k F with⟨h0,f⟩|⟨x,he,A,h,f⟩;refine .inl ⟨?_,f⟩;(have:(leftOf l seen).toList=[]:=by grind);rw[this]at C;simpa[js]using C;obtain⟨m,g,u⟩:=so he;obtain⟨a,L,ad,rfl,W,n,V,X⟩:=C.split u;(have i:A.heap=w.heap:=by rcases h with rfl|rfl<;>rfl);(have s:A.heap[r]?=H (.mapIter (H v) d seen O):=by rw[i];exact T);have j:(setBlock A r<|.mapIter (H v) d (seen.push x.born) b).heap[r]?=H (.mapIter (H v) d (seen.push x.born) b):=(fG s).1;have e:∀K,K≠r->(setBlock A r<|.mapIter (H v) d (seen.push x.born) b).heap[K]?=w.heap[K]?:=λK n=>((fG s).2 K n).trans (by rw[i]);have q:=(e v<|λx=>D x.symm).trans S;(have B:x∈l.toList:=by(have:(leftOf l seen).toList.Sublist l.toList:=by simp[leftOf]);grind);refine .inr ⟨a,L,ad,_,rfl,by rw[<-n,<-V];exact f,⟨l,b,d,_,b,q,hf,E,j,k,t,t,by rw[Gg E.2.1 u];exact W.append X⟩,⟨?_,?_,?_,?_,λK _ n=>e K<|λx=>n<|by rw[x]⟩,?_,?_⟩;rcases h with rfl|rfl<;>rfl;rcases h with rfl|rfl<;>rfl;rcases h with rfl|rfl<;>rfl;simp[setBlock,i];simp[setBlock,i];rw[<-n,<-V];exact run_entry_at _ r v d seen l b x j q B E.2.1
section
variable{P:Program}(w:Z){c:Array Oper}{rest:cS Oper}{o:Oper}{a:Act}{Q:Exit->Act->Z->Prop}
end
theorem Yn{P:Program}{w:Z}{mt l i n:M}{m:gz}{v:TypeInfo}{d:ab}(t:P.underlying mt=H (.map l i))(j:P.underlying l=H (.int .i64))(r:P.info? i=H v)(u:v.zero=H d)(x:kN w n m)(k:U):(Instr.lookup mt (.map<|H n) (aq k) ci).run P w=.ok (dd #[(m.get k).getD d,aK (m.get k).isSome]) w:=by
 obtain⟨e,b,q,p,_⟩:=x;obtain⟨A,s⟩:=Fh k e.toList m 0 p;have f:=eM (P:=P) (w:=w) (k:=aq k) j (by rfl) e.isEmpty 9999;have g:=eJ (P:=P) (w:=w) j s;have h:(getObj n).run P w=.ok (.map e b) w:=by simp[getObj,Sem.run,q]
 unfold Instr.lookup;rw[kB,ep t];simp only[jW,kB,h,rN];rw[show(10000:M)=9999+1 from rfl,f];simp only[jW,g];cases hg:m.get k with
 |none=>simp[zeroValue,typeInfo,r,u]
 |some B=>simp
theorem js.length{b:cS MapEntry}{m:gz}(h:js b m):y b=y m:=by
 have:=bQ y h;grind
theorem XK{P:Program}{w:Z}{mt j f l:M}{m:gz}(i:P.underlying mt=H (.map j f))(p:kN w l m)(k:TypeId):(Builtin.len_ #[mt] k #[.map<|H l]).run P w=.ok (aq<|y m) w:=by
 obtain⟨n,b,h,g,_⟩:=p;have d:=jc (P:=P) h;have e:=g.length;rw[kq]at e;simp[Builtin.len_,ep i,d,goInt,Result.andThen,e]
theorem kN.new(w:Z):kN (cG w<|.map #[] 0) (z<|G w) []:=by
 refine⟨#[],0,?_,js.nil,pW 0⟩;show(w.heap.push _)[z<|G w]?=_;simp
theorem kN.di{w w':Z}{b:M}{m:gz}(i:kN w b m)(h:w'.heap[b]?=w.heap[b]?):kN w' b m:=by
 obtain⟨e,d,f,g⟩:=i;exact⟨e,d,h.trans f,g⟩
end
section
open ChangeMaps (setBlock)
def kZ(w:Z)(f:M)(g:TypeDesc)(e:ab->Prop):Prop:=∃d b,w.heap[f]?=H (.map d b)/\MapKept.Stamped d b/\(∀x∈d.toList,MapKept.IsKey g x.key)/\(∀x∈d.toList,x.val=dD #[])/\∀k,e k↔∃x∈d.toList,x.key=k
theorem kZ.lt{w:Z}{b:M}{g:TypeDesc}{e:ab->Prop}(h:kZ w b g e):b<z (G w):=by
 obtain⟨_,_,d,_⟩:=h;exact ar d
theorem kZ.di{w w':Z}{b:M}{i:TypeDesc}{e:ab->Prop}(k:kZ w b i e)(j:w'.heap[b]?=w.heap[b]?):kZ w' b i e:=by
 obtain⟨f,d,g,h⟩:=k;exact⟨f,d,j.trans g,h⟩
theorem kZ.new(w:Z)(d:TypeDesc):kZ (cG w<|.map #[] 0) (z<|G w) d az:=by
 refine⟨#[],0,?_,⟨by simp,by simp,by simp⟩,by simp,by simp,by simp⟩;show(w.heap.push _)[z<|G w]?=_;simp
theorem kZ.congr{w:Z}{m:M}{n:TypeDesc}{e d:ab->Prop}(q:kZ w m n e)(p:∀k,d k↔e k):kZ w m n d:=by
 obtain⟨f,b,g,h,i,j,l⟩:=q;exact⟨f,b,g,h,i,j,λk=>(p k).trans<|l k⟩
theorem AS{P:Program}{w:Z}{mt r n t:M}{u:TypeDesc}{q:ab->Prop}{K:TypeInfo}(D:P.underlying mt=H (.map r n))(k:P.underlying r=H u)(A:P.info? n=H K)(E:K.zero=H (dD #[]))(L:kZ w t u q)(m:ab)(e:MapKept.IsKey u m)(s:Bool)(C:s=ci↔q m):(Instr.lookup mt (.map<|H t) m ci).run P w=.ok (dd #[dD #[],aK s]) w:=by
 obtain⟨g,b,x,N,l,O,B⟩:=L;have i:=eM (P:=P) (w:=w) (k:=m) k e g.isEmpty 9999;have j:(getObj t).run P w=.ok (.map g b) w:=by simp[getObj,Sem.run,x]
 unfold Instr.lookup;rw[kB,ep D];simp only[jW,kB,j,rN];rw[show(10000:M)=9999+1 from rfl,i];simp only[jW];rcases MapKept.findNow_spec e g.toList 0 l with⟨h,p⟩|⟨S,F,h,p,v⟩;have d:=eJ (P:=P) (w:=w) k h;(have:s=bj:=by grind);simp[d,zeroValue,typeInfo,A,E,this];have d:=eJ (P:=P) (w:=w) k h;have f:F∈g.toList:=ew p;have:s=ci:=C.2<|(B m).2 ⟨F,f,v⟩;simp_all
theorem yP{P:Program}{w:Z}{mt K N v:M}{L:TypeDesc}{F:ab->Prop}(D:P.underlying mt=H (.map K N))(q:P.underlying K=H L)(T:kZ w v L F)(s:ab)(i:MapKept.IsKey L s):∃r,(Instr.mapUpdate mt (.map<|H v) s<|dD #[]).run P w=.ok () r/\kZ r v L (λx=>F x\/x=s)/\w.grownBy r (H v)/\z (G r)=z (G w):=by
 obtain⟨g,b,m,C,n,V,S⟩:=T;have l:=jc (P:=P) m;rcases MapKept.findNow_spec i g.toList 0 n with⟨t,p⟩|⟨E,e,t,p,O⟩;refine⟨setBlock w v<|.map (g.push {key:=s,val:=dD #[],born:=b})<|b+1,?_,?_,iN _ _ _,by simp[setBlock]⟩;simp[Instr.mapUpdate,ep D,l,eM q i,eJ q t,fA _ m,Result.andThen,setBlock];refine⟨_,_,(fG m).1,qU C p,?_,?_,?_⟩;(grind);(grind);intro x;simp only[Array.toList_push,aG,dA];grind
 (have A:g[E]?=H e:=by simpa using p);have B:e∈g.toList:=ew p;refine⟨setBlock w v<|.map (g.modify E λe=>{e with key:=s,val:=dD #[]}) b,?_,?_,iN _ _ _,by simp[setBlock]⟩;simp[Instr.mapUpdate,ep D,l,eM q i,eJ q t,A,O,og i,fA _ m,Result.andThen,setBlock];(have j:∀h,g[E]?=H h->h.key=s:=λh d=>by rw[A]at d;grind);refine⟨_,_,(fG m).1,pu C _ _ (λ_ _=>rfl)<|λh _ d=>(j h d).symm,MapKept.isKey_modify n _ _<|λh d=>(j h d).symm,?_,?_⟩;(grind[Array.toList_modify,getElem?_of_mem,mem_of_getElem?]);intro x;have k:((g.modify E λe=>{e with key:=s,val:=dD #[]}).toList.map (·.key))=g.toList.map (·.key):=MapKept.modify_keys _ _<|λh d=>(j h d).symm;(have u:(∃b∈(g.modify E λe=>{e with key:=s,val:=dD #[]}).toList,b.key=x)↔∃b∈g.toList,b.key=x:=by rw[<-bM (f:=λb:MapEntry=>b.key),<-bM (f:=λb:MapEntry=>b.key),k]);rw[u,<-S x];grind
section
variable{P:Program}(w:Z){c:Array Oper}{rest:cS Oper}{o:Oper}{a:Act}{Q:Exit->Act->Z->Prop}
theorem tX(n:o.guard=none)(i x j:Operand)(B:TypeId)(g:o.op=Op.mapUpdate B i x j)(A D:TypeId)(r:P.underlying B=H (.map A D))(l:TypeDesc)(p:P.underlying A=H l)(k:M)(h:ab->Prop)(q:a.eval i=.map (H k))(E:kZ w k l h)(b:ab)(f:MapKept.IsKey l b)(t:a.eval x=b)(s:a.eval j=dD #[])(m:∀w',kZ w' k l (λx=>h x\/x=b)->w.grownBy w' (H k)->wpList P c Q rest (a.put o.dst ix) w'):wpList P c Q (o::rest) a w:=by
 refine kA n λC e=>?_;obtain⟨w',d,u,v,_⟩:=yP r p E b f;unfold Oper.wp;simp[execOp,g,q,t,s,d,Result.andThen];exact e _ _<|m w' u v
end
end
