import Derived.Deep.RegionHeld3
import Derived.Laws.Entries
import Derived.MapKept
import Derived.Maps.RangeWalk
import Derived.OwnWalk
import Derived.Test.YtmnlcbeggagabaaGreatDoorC1
import Derived.Test.YtmnlcbeggagabaaGreatDoorC2
open _root_ renaming List.length→y,Option.some→H,Array.size→z,Go.World.heap→G,Go.Value.ownBlock→cz,Go.World.cell?→aS,Go.World.setCell→cA,Go.World.alloc→cG,Bool.false→bj,Bool.true→cq,Nat→M,Int→U,List→cS,Go.Calls→cD,Go.undef→iA,Go.Proofs.Tryz.prog→aZ,Go.Value.string→am,Go.Value.bool→aK,Go.Value.pointer→dG,Go.Value.tuple→dd,Go.Value.agg→dE
namespace Go.Proofs.YtmnlcbeggagabaaGreatDoor
open ChangeShapes WideShapes RowKit Proofs.Tryz List
set_option maxHeartbeats 16000000
set_option linter.all false
set_option maxRecDepth 100000
variable{a f B:Z}{b c g:M}{d u P:ab}{k D S:U}{n:dO}{K:Bool}
def E.value(e:E):ab:=dE #[am e.key,am e.val,aK e.del,aG e.bL]
def E.cells(e:E):iI:=[am e.key,am e.val,aK e.del,aG e.bL]
def oJ(d:Bool):U:=if d then 1 else 0
def dZ(s:ae):dO:=(s.size:U)::kP s
def nT(e:E):dO:=oJ e.del::(dZ e.key++dZ e.val)
def eC.ne(h:eC a B d u)(e:cz d≠H b)(c:b<z (G a)):cz u≠H b:=by
 grind[eC.uk]
def eC.cell{w w':Z}(h:eC w w' d u){N i:M}(a:aS w (R N i)=H P)(c:cz d≠H N):aS w' (R N i)=H P:=h.grown.cell a<|λe=>c e.symm
def eE.lt{bs:dO}(h:eE a c d bs):∀k,cz d=H k->c<=k/\k<z (G a):=bM h
def eE.of_heap{w w':Z}(h:eE w b d n)(e:w'.heap=w.heap):eE w' b d n:=by
 unfold eE World.ownsRow at*;rw[e];exact h
def eC.of_heap{a w w':Z}(h:eC w w' d u)(e:(a.os,a.tape,a.output,a.heap)=(w.os,w.tape,w.output,w.heap)):eC a w' d u:=by
 simp only[jb]at e;obtain⟨g,i,j,b⟩:=e;refine⟨⟨by rw[h.grown.os,g],by rw[h.grown.tape,i],by rw[h.grown.output,j],by rw[b];exact h.grown.size,λl e k=>by rw[b]at e|-;exact h.grown.block l e k⟩,by rw[b];exact h.uk⟩
def eC.GH{o:Obj}(h:eC (a.alloc o).drew f d u):eC a f d u:=(eC.of_heap (a:=a.alloc o) h rfl).alloc o
def Ox(a:M)(aa:ab)(s:dO)(ac:E)(w:Z)(p:eE w a aa s)(hb:a<=z (G w))(hl:y s<=35184372088832)(S:ac.key.size<=255)(V:ac.val.size<=255):cD aZ 190 #[aa,ac.value] w λD w'=>∃X,D=aJ X/\eE w' a X (s++nT ac)/\eC w w' aa X:=by
 obtain⟨d,e,B,k⟩:=ac;simp only at S V;unfold E.value;simp only;have i:cz aa≠H (z<|G w):=λD=>by have:=(p.lt _ D).2;omega
 have O0:=Y<|p.alloc<|ay #[am d,am e,aK B,aG k] 170;clear p;cases B with
 |true=>
  go_in
  go_wp2_with fail
  go_region_held3(λj=>aS j (R (z<|G w) 0)=H (am d)/\aS j (R (z<|G w) 1)=H (am e)) (first|assumption|go_keep) (first
   |(go_at_call 189;refine(tG a aa s 1 _ ?_ (by simp;omega)<|by omega).mono ?_;exact O0.of_heap rfl;rintro D x⟨u,rfl,m,b⟩;have g:cz u≠H (z<|G w):=b.ne i (by simp);have q:aS x (R (z<|G w) 0)=H (.string d)/\aS x (R (z<|G w) 1)=H (.string e):=⟨b.cell (by simp) i,b.cell (by simp) i⟩;have t:z (G w)<z (G x):=(by have:=b.grown.size;simp at this;omega);have F:=Y m;have N:=Y b;clear m b)
   |(go_at_call_of 230 u;refine(oX a u (s++[1]) d _ ?_ (by omega) ?_ S).mono ?_;exact F.of_heap rfl;(simp;omega);rintro D A⟨v,rfl,n,c⟩;have l:cz v≠H (z<|G w):=c.ne g t;have r:aS A (R (z<|G w) 0)=H (.string d)/\aS A (R (z<|G w) 1)=H (.string e):=⟨c.cell q.1 g,c.cell q.2 g⟩;have W:z (G w)<z (G A):=(by have:=c.grown.size;omega);have K:=Y n;have O:=Y<|N.trans c;clear n c)
   |(go_at_call_of 230 v;refine(oX a v (s++[1]++dZ d) e _ ?_ (by omega) ?_ V).mono ?_;exact K.of_heap rfl;(simp[dZ,ie];omega);rintro D C⟨v3,rfl,o,f⟩;have T:aS C (R (z (G w)) 0)=H (.string d)/\aS C (R (z (G w)) 1)=H (.string e):=⟨f.cell r.1 l,f.cell r.2 l⟩;have L:=Y o;have P:=Y (O.trans f);clear o f))
  go_wp2;go_ret;refine⟨v3,rfl,?_,P.GH⟩;have Q:=af L;simpa[nT,oJ,dZ,bz]using Q
 |false=>
  go_in
  go_wp2_with fail
  go_region_held3(λj=>aS j (R (z<|G w) 0)=H (am d)/\aS j (R (z<|G w) 1)=H (am e)) (first|assumption|go_keep) (first
   |(go_at_call 189;refine(tG a aa s 0 _ ?_ (by simp;omega)<|by omega).mono ?_;exact O0.of_heap rfl;rintro D x⟨u,rfl,m,b⟩;have g:cz u≠H (z<|G w):=b.ne i (by simp);have q:aS x (R (z<|G w) 0)=H (.string d)/\aS x (R (z<|G w) 1)=H (.string e):=⟨b.cell (by simp) i,b.cell (by simp) i⟩;have t:z (G w)<z (G x):=(by have:=b.grown.size;simp at this;omega);have F:=Y m;have N:=Y b;clear m b)
   |(go_at_call_of 230 u;refine(oX a u (s++[0]) d _ ?_ (by omega) ?_ S).mono ?_;exact F.of_heap rfl;(simp;omega);rintro D A⟨v,rfl,n,c⟩;have l:cz v≠H (z<|G w):=c.ne g t;have r:aS A (R (z<|G w) 0)=H (.string d)/\aS A (R (z<|G w) 1)=H (.string e):=⟨c.cell q.1 g,c.cell q.2 g⟩;have W:z (G w)<z (G A):=(by have:=c.grown.size;omega);have K:=Y n;have O:=Y<|N.trans c;clear n c)
   |(go_at_call_of 230 v;refine(oX a v (s++[0]++dZ d) e _ ?_ (by omega) ?_ V).mono ?_;exact K.of_heap rfl;(simp[dZ,ie];omega);rintro D C⟨v3,rfl,o,f⟩;have T:aS C (R (z (G w)) 0)=H (.string d)/\aS C (R (z (G w)) 1)=H (.string e):=⟨f.cell r.1 l,f.cell r.2 l⟩;have L:=Y o;have P:=Y (O.trans f);clear o f))
  go_wp2;go_ret;refine⟨v3,rfl,?_,P.GH⟩;have Q:=af L;simpa[nT,oJ,dZ,bz]using Q
theorem pI{b:Bool}(h:K=b):Ending.returned (aK K)=aJ (aK b):=by rw[h]
theorem qB(s:ae)(w:Z)(f:s.size<=140737488351232):cD aZ 71 #[am s] w λe d=>e=aJ (aK<|decide<|1<=s.size/\s.size<=8)/\d=w:=by
 by_cases b:1<=s.size;(.by_cases c:s.size<=8;(·(have a:decide (1<=s.size/\s.size<=8)=cq:=by simp[b,c]);rw[a];(go_in);go_wp2;go_ret;exact⟨pI (by simp;omega),rfl⟩);(have a:decide (1<=s.size/\s.size<=8)=bj:=by simp[b,c]);rw[a];(go_in);go_wp2;go_ret;exact⟨pI (by simp;omega),rfl⟩);(have a:decide (1<=s.size/\s.size<=8)=bj:=by simp[b]);rw[a];(go_in);go_wp2;go_ret;simp_all
theorem wX(s:ae)(w:Z)(d:s.size<=140737488351232):cD aZ 72 #[am s] w λe c=>e=aJ (aK<|decide<|s.size<=16)/\c=w:=by
 by_cases b:s.size<=16;(·(have a:decide (s.size<=16)=cq:=by simp[b]);rw[a];(go_in);go_wp2;go_ret;exact⟨pI (by simp;omega),rfl⟩);(have a:decide (s.size<=16)=bj:=by simp[b]);rw[a];(go_in);go_wp2;go_ret;exact⟨pI (by simp;omega),rfl⟩
structure E.Good(x:E):Prop where
 TA:1<=x.key.size
 KO:x.key.size<=8
 val:x.val.size<=16
 del:x.del=cq->x.val=⟨#[]⟩
 b0:0<=x.bL
 b1:x.bL<18446744073709551616
theorem mF(a b:dO):jx (a++b) bj (y a)=(b,bj,a):=by
 unfold jx;rw[eI<|by simp];simp
def uZ(s:ae)(b:dO):CV (dZ s++b) bj=(b,bj,kP s)/\num (dZ s++b) bj 1=s.size:=by
 have a:jx (dZ s++b) bj 1=(kP s++b,bj,[(s.size:U)]):=by have:=mF [(s.size:U)]<|kP s++b;simpa[dZ]using this
 have c:num (dZ s++b) bj 1=s.size:=by unfold num;rw[a];simp[kL]
 refine⟨?_,c⟩;unfold CV;grind[mF,ie]
def KM(d:Bool)(b:dO):jx (oJ d::b) bj 1=(b,bj,[oJ d])/\num (oJ d::b) bj 1=oJ d:=by
 have h:=mF [oJ d] b;have a:jx (oJ d::b) bj 1=(b,bj,[oJ d]):=by simpa using h
 exact⟨a,by unfold num;rw[a];simp[kL]⟩
def IS(b c:ae):(b==c)=decide (b=c):=by
 obtain⟨x⟩:=b;obtain⟨a⟩:=c;show(x==a)=_;by_cases h:x=a;simp[h];simp[h]
abbrev eY:=cS<|ae×ab
def eY.get(m:eY)(k:ae):Option ab:=match m with
 |[]=>none
 |p::r=>if p.1=k then H p.2 else eY.get r k
def Fits(a:cS MapEntry)(m:eY):Prop:=a.map (λe=>(e.key,e.val))=m.map (λp=>(am p.1,p.2))
def Fits.cons_inv{e:MapEntry}{a:cS MapEntry}{m:eY}(h:Fits (e::a) m):∃p r,m=p::r/\e.key=am p.1/\e.val=p.2/\Fits a r:=by
 cases m with
 |nil=>simp[Fits]at h
 |cons p r=>
  simp[Fits]at h;exact⟨p,r,rfl,h.1.1,h.1.2,h.2⟩
def Iu(k:ae):∀(a:cS MapEntry)(m:eY)(i:M),Fits a m->∃l,Instr.findNow .string (am k) a i=H ((m.get k).map λv=>(l,v)):=by
 intro a;induction a with
 |nil=>
  intro m i h;obtain rfl:m=[]:=by simpa[Fits]using h
  exact⟨0,rfl⟩
 |cons n a j=>
  intro m i h;obtain⟨p,r,rfl,c,g,f⟩:=h.cons_inv;by_cases d:p.1=k
  .refine⟨i,?_⟩;simp[Instr.findNow,Instr.sameNow,c,eY.get,d,g,IS]
  .obtain⟨l,e⟩:=j r (i+1) f;refine⟨l,?_⟩;have b:(k==p.1)=bj:=by rw[IS];grind
   simp[Instr.findNow,Instr.sameNow,c,eY.get,d,b,e]
def gm(w:Z)(c:M)(m:eY):Prop:=∃b a,w.heap[c]?=H (.map b a)/\Fits b.toList m/\MapKept.Stamped b a
def qY{P:Program}{mt l i n:M}{m:eY}{u:TypeInfo}(s:P.underlying mt=H (.map l i))(j:P.underlying l=H .string)(q:P.info? i=H u)(t:u.zero=H d)(v:gm a n m)(k:ae):(Instr.lookup mt (.map<|H n) (am k) bj).run P a=.ok ((m.get k).getD d) a:=by
 obtain⟨c,b,p,o,_⟩:=v;obtain⟨w,r⟩:=Iu k c.toList m 0 o;have e:=eM (P:=P) (w:=a) (k:=am k) j (by trivial) c.isEmpty 9999;have g:=eJ (P:=P) (w:=a) j r;have h:(getObj n).run P a=.ok (.map c b) a:=by simp[getObj,Sem.run,p]
 unfold Instr.lookup;rw[kE,ep s];simp only[jZ,kE,h,rP];rw[show(10000:M)=9999+1 from rfl,e];simp only[jZ,g];cases hg:m.get k with
 |none=>simp[zeroValue,typeInfo,q,t]
 |some x=>simp
section
open ChangeMaps (setBlock)
def eY.put(m:eY)(k:ae)(v:ab):eY:=match m with
 |[]=>[(k,v)]
 |p::r=>if p.1=k then(k,v)::r else p::eY.put r k v
def eY.del(m:eY)(k:ae):eY:=match m with
 |[]=>[]
 |p::r=>if p.1=k then r else p::eY.del r k
theorem Fits.cons{e:MapEntry}{b:cS MapEntry}{p:ae×ab}{m:eY}(d:e.key=am p.1)(f:e.val=p.2)(h:Fits b m):Fits (e::b) (p::m):=by
 simp[Fits,d,f];exact h
theorem Gv(k:ae):∀(d:cS MapEntry)(m:eY)(q:M),Fits d m->(Instr.findNow .string (am k) d q=H none/\m.get k=none/\(∀e∈d,e.key≠am k)/\m.del k=m/\∀v,m.put k v=m++[(k,v)])\/∃r e,Instr.findNow .string (am k) d q=H (H (q+r,e.val))/\d[r]?=H e/\e.key=am k/\m.get k=H e.val/\(∀v,Fits (d.modify r λe=>{e with key:=am k,val:=v})<|m.put k v)/\Fits (d.eraseIdx r) (m.del k):=by
 intro d;induction d with
 |nil=>
  intro m q u;obtain rfl:m=[]:=by simpa[Fits]using u
  exact .inl ⟨rfl,rfl,by simp,rfl,λ_=>rfl⟩
 |cons e d A=>
  intro m q u;obtain⟨B,C,rfl,f,p,n⟩:=u.cons_inv;by_cases b:B.1=k
  .refine .inr ⟨0,e,?_,rfl,by rw[f,b],?_,?_,?_⟩
   .simp[Instr.findNow,Instr.sameNow,f,b,IS]
   .simp[eY.get,b,p]
   .intro v;simp only[eY.put,b,ly,pZ];exact Fits.cons rfl rfl n
   .simpa[eY.del,b]using n
  .have g:(k==B.1)=bj:=by rw[IS];grind
   rcases A C (q+1) n with⟨h,i,s,j,l⟩|⟨r,t,h,i,s,j,l,x⟩
   .refine .inl ⟨?_,?_,?_,?_,?_⟩
    .simp[Instr.findNow,Instr.sameNow,f,g,h]
    .simp[eY.get,b,i]
    .grind
    .simp[eY.del,b,j]
    .intro v;simp[eY.put,b,l]
   .refine .inr ⟨r+1,t,?_,by simpa using i,s,?_,?_,?_⟩
    .simp[Instr.findNow,Instr.sameNow,f,g,h];omega
    .simp[eY.get,b,j]
    .intro v;simp only[eY.put,b,np,qa];exact Fits.cons f p<|l v
    .simp only[eY.del,b,np,ut];exact Fits.cons f p x
theorem iQ(w:Z)(d:M)(o:Obj):w.grownBy (setBlock w d o) (H d):=⟨rfl,rfl,rfl,by simp[setBlock],λk _ b=>by
 simp only[setBlock];rw[Array.getElem?_setIfInBounds_ne (λe=>b (by rw[e]))]⟩
theorem BN{P:Program}{w:Z}{mt v A p:M}{B:eY}(u:P.underlying mt=H (.map v A))(h:P.underlying v=H .string)(E:gm w p B)(k:ae)(x:ab):∃i,(Instr.mapUpdate mt (.map<|H p) (am k) x).run P w=.ok () i/\gm i p (B.put k x)/\w.grownBy i (H p)/\z (G i)=z (G w):=by
 obtain⟨g,b,f,n,t⟩:=E;have d:=je (P:=P) f;rcases Gv k g.toList B 0 n with⟨j,q,l,_,r⟩|⟨C,e,j,q,l,F,r,_⟩;refine⟨setBlock w p<|.map (g.push {key:=am k,val:=x,born:=b})<|b+1,?_,?_,iQ _ _ _,by simp[setBlock]⟩;simp[Instr.mapUpdate,ep u,d,eM h (show MapKept.IsKey .string (am k)by trivial),eJ h j,fB _ f,Result.andThen,setBlock];refine⟨_,_,(fH f).1,?_,qW t l⟩;rw[r];simp[Fits]at n|-;exact n;(have s:g[C]?=H e:=by simpa using q);refine⟨setBlock w p<|.map (g.modify C λe=>{e with key:=am k,val:=x}) b,?_,?_,iQ _ _ _,by simp[setBlock]⟩;simp[Instr.mapUpdate,ep u,d,eM h (show MapKept.IsKey .string (am k)by trivial),eJ h j,s,l,oo (show MapKept.IsKey .string (am k)by trivial),fB _ f,Result.andThen,setBlock];refine⟨_,_,(fH f).1,?_,pA t _ _ (λ_ _=>rfl) (λD _ m=>by rw[s]at m;grind)⟩;grind
theorem JG{P:Program}{w:Z}{mt k s l:M}{A:eY}(q:P.underlying mt=H (.map k s))(g:P.underlying k=H .string)(D:gm w l A)(r:ae)(B:TypeId):∃h,(Builtin.delete_ #[mt,k] B #[.map<|H l,am r]).run P w=.ok (dd #[]) h/\gm h l (A.del r)/\w.grownBy h (H l)/\z (G h)=z (G w):=by
 obtain⟨d,b,f,n,p⟩:=D;have e:=je (P:=P) f;rcases Gv r d.toList A 0 n with⟨i,j,t,m,u⟩|⟨x,C,i,j,t,m,u,E⟩;refine⟨setBlock w l<|.map d b,?_,?_,iQ _ _ _,by simp[setBlock]⟩;simp[Builtin.delete_,ep q,e,eM g (show MapKept.IsKey .string (am r)by trivial),eJ g i,fB _ f,Result.andThen,setBlock];rw[m];exact⟨_,_,(fH f).1,n,p⟩;(have F:d[x]?=H C:=by simpa using j);(have v:x<d.size:=by have:=jv.1 j;grind);refine⟨setBlock w l<|.map (d.eraseIdxIfInBounds x) b,?_,?_,iQ _ _ _,by simp[setBlock]⟩;simp[Builtin.delete_,ep q,e,eM g (show MapKept.IsKey .string (am r)by trivial),eJ g i,fB _ f,Result.andThen,setBlock];refine⟨_,_,(fH f).1,?_,vR p _⟩;simp_all
theorem gm.kept{w h:Z}{i:M}{n:eY}{d:Option M}(p:gm w i n)(l:w.grownBy h d)(e:H i≠d):gm h i n:=by
 obtain⟨j,b,g,k,m⟩:=p;exact⟨j,b,(l.block i (ar g) e).trans g,k,m⟩
theorem gm.alloc{w:Z}{b:M}{m:eY}(h:gm w b m)(o:Obj):gm (cG w o) b m:=h.kept (dy w o none)<|by simp
theorem gm.lt{w:Z}{b:M}{m:eY}(h:gm w b m):b<z (G w):=by
 obtain⟨_,_,d,_⟩:=h;exact ar d
section
variable{P:Program}(w:Z){c:Array Oper}{rest:cS Oper}{o:Oper}{a:Act}{Q:Exit->Act->Z->Prop}
theorem wo(m:o.guard=none)(i B j:Operand)(A:TypeId)(h:o.op=Op.mapUpdate A i B j)(v D:TypeId)(q:P.underlying A=H (.map v D))(n:P.underlying v=H .string)(k:M)(x:eY)(p:a.eval i=.map (H k))(E:gm w k x)(b:ae)(d:ab)(s:a.eval B=am b)(r:a.eval j=d)(l:∀f,gm f k (x.put b d)->w.grownBy f (H k)->wpList P c Q rest (a.put o.dst iA) f):wpList P c Q (o::rest) a w:=by
 refine kD m λC g=>?_;obtain⟨f,e,t,u,_⟩:=BN q n E b d;unfold Oper.wp;simp[execOp,h,p,s,r,e,Result.andThen];exact g _ _<|l f t u
theorem CP(k:o.guard=none)(h x:Operand)(u q:TypeId)(g:o.op=Op.call {callee:=Callee.builtin Builtin.delete,args:=#[h,x],argTypes:=#[u,q]})(A:TypeId)(n:P.underlying u=H (.map q A))(l:P.underlying q=H .string)(i:M)(t:eY)(m:a.eval h=.map (H i))(B:gm w i t)(b:ae)(p:a.eval x=am b)(j:∀e,gm e i (t.del b)->w.grownBy e (H i)->wpList P c Q rest (a.put o.dst<|dd #[]) e):wpList P c Q (o::rest) a w:=by
 refine kD k λv f=>?_;obtain⟨e,d,r,s,_⟩:=JG n l B b o.type;unfold Oper.wp;simp[execOp,g,resolve,invoke,builtin,m,p,d,Result.andThen];exact f _ _<|j e r s
end
end
def rj:(prog.info? 74).map (λi=>(i.zero,i.size,i.bytes))=H (H<|dG none,1,8):=by kernel_rfl
def mZ(w:Z)(e g d:M)(f:ab)(c b a:U):Prop:=w.heap[e]?=H (ay #[.map<|H g,.map<|H d,f,aq c,aq 0,aq 0,aq b,aq a] 72 (0,0))
def xV(h:mZ a b c g d k D S):cD aZ 134 #[aA b] a λj i=>j=aJ (aK bj)/\i=a:=by
 have e:=cellAt h 4 rfl;have f:=cellAt h 5 rfl;clear h;go_in
 go_wp2;go_ret;simp_all
def uK(s:eY)(e:ae)(q:Addr)(h:mZ a b c g d k D S)(m:gm a c s)(j:s.get e=H (dG<|H q)):cD aZ 133 #[aA b,am e] a λr p=>r=aJ (dd #[dG<|H q,.nilIface])/\p=a:=by
 obtain⟨t,o,i,_,_⟩:=cU rj;have l:=qY underlying69 underlying9 o i m e;rw[j]at l;simp only[kO]at l;have n:=cellAt h 0 rfl;have f:=Y h;clear h m j;go_in
 go_wp2_with(first
  |(go_at_call 134;refine(xV f).mono ?_;rintro r u⟨rfl,rfl⟩))
 go_ret2
 simp_all
def Ra(r:eY)(e:ae)(h:mZ a b c g d k D S)(m:gm a c r)(j:r.get e=none):cD aZ 133 #[aA b,am e] a λq p=>q=aJ (dd #[dG none,.iface 202<|aA<|z<|G a])/\p=cG a (ay #[am e,aq 10] 204):=by
 obtain⟨s,o,i,_,_⟩:=cU rj;have l:=qY underlying69 underlying9 o i m e;rw[j]at l;simp only[Option.getD_none]at l;have n:=cellAt h 0 rfl;have f:=Y h;clear h m j;go_in
 go_wp2_with(first
  |(go_at_call 134;refine(xV f).mono ?_;rintro q t⟨rfl,rfl⟩))
 go_ret2
 simp_all
structure IZ(w:Z)(g:M)(bs:dO)(safe:U):Prop where
 iB:∃v,w.heap[g]?=H (ay #[v,aq safe] 78 (0,0))/\Bytes w v bs/\cz v≠H g
def Bytes.shape(h:Bytes a d n):d=aw/\n=[]\/∃f b c,d=aY f b (y n) c/\y n<=c:=by
 rcases h with h|⟨f,b,c,h,e,_⟩;exact .inl h;grind
def Ss(w:eY)(e:ae)(t:M)(i:dO)(f:U)(h:mZ a b c g d k D S)(p:gm a c w)(n:w.get e=H (aA t))(q:IZ a t i f)(B:y i<=140737488351232):cD aZ 96 #[aA b,am e] a λA x=>A=aJ (dd #[aq<|y i,.nilIface])/\x=a:=by
 obtain⟨F,o,m,_⟩:=q.iB;have u:=cellAt o 0 rfl;have r:=Y<|uK w e (R t 0) h p n;have j:=m.shape;clear q o m h p n;rcases j with⟨rfl,rfl⟩|⟨E,l,s,rfl,v⟩
 all_goals
  go_in
  go_wp2_with(first
   |(go_at_call 133;refine r.mono ?_;rintro A C⟨rfl,rfl⟩))
  go_ret2
  simp_all
def Py(m:eY)(e:ae)(h:mZ a b c g d k D S)(i:gm a c m)(f:m.get e=none):cD aZ 96 #[aA b,am e] a λn l=>n=aJ (dd #[aq 0,.iface 202<|aA<|z<|G a])/\l=cG a (ay #[am e,aq 10] 204):=by
 have j:=Y<|Ra m e h i f;clear h i f;go_in
 go_wp2_with(first
  |(go_at_call 133;refine j.mono ?_;rintro n o⟨rfl,rfl⟩))
 go_ret2
 simp_all
def Sl(F:eY)(e:ae)(n:M)(f:dO)(m:U)(h:mZ a b c g d k D S)(s:gm a c F)(r:F.get e=H (aA n))(t:IZ a n f m)(L:y f<=140737488351232):cD aZ 78 #[aA b,am e] a λK u=>K=aJ .nilIface/\IZ u n f (y f)/\u=cA a (R n 1) (aq<|y f):=by
 obtain⟨N,l,o,j⟩:=t.iB;have A:=cellAt l 0 rfl;have C:=cZ (i:=1) l;have B:=cellAt l 1 rfl;have w:=Y<|uK F e (R n 0) h s r;have v:=Y<|show IZ (cA a (R n 1)<|aq<|y f) n f (y f)from⟨N,by rw[aL l];rfl,o.grown (du a n 1 _)<|.inl j,j⟩;have p:=o.shape;clear t l o h s r j;rcases p with⟨rfl,rfl⟩|⟨P,q,x,rfl,E⟩
 all_goals
  go_in
  go_wp2_with(first
   |(go_at_call 133;refine w.mono ?_;rintro K O⟨rfl,rfl⟩))
  go_ret;exact⟨rfl,v,rfl⟩
section
open ChangeMaps (setBlock)
def pq(w:Z)(h r:M)(m left:eY):Prop:=∃e d b seen g,w.heap[h]?=H (.map e d)/\Fits e.toList m/\MapKept.Stamped e d/\w.heap[r]?=H (.mapIter (H h) b seen g)/\(∀x∈e.toList,x.born<b)/\b<=g/\b<=d/\Fits (leftOf e seen).toList left
theorem pq.ne{w:Z}{d r:M}{m left:eY}(h:pq w d r m left):r≠d:=by
 obtain⟨e,b,_,_,_,g,_,_,i,_⟩:=h;grind
theorem pq.lt{w:Z}{b r:M}{m left:eY}(h:pq w b r m left):r<z (G w):=by
 obtain⟨g,d,_,_,_,_,_,_,e,_⟩:=h;exact ar e
theorem pq.kept{w e:Z}{g r:M}{s left:eY}(t:pq w g r s left)(p:e.heap[g]?=w.heap[g]?)(q:e.heap[r]?=w.heap[r]?):pq e g r s left:=by
 obtain⟨i,b,d,seen,h,j,k,l,m,n⟩:=t;exact⟨i,b,d,seen,h,p.trans j,k,l,q.trans m,n⟩
theorem Fits.split{e:cS MapEntry}{n:eY}{d b:cS MapEntry}{h:MapEntry}(i:Fits e n)(m:e=d++h::b):∃a p g,n=a++p::g/\Fits d a/\h.key=am p.1/\h.val=p.2/\Fits b g:=by
 subst m;unfold Fits at i;rw[aN,bV]at i;obtain⟨a,q,rfl,j,k⟩:=iC.1 i.symm;obtain⟨p,g,rfl,f,l⟩:=nt.1 k;exact⟨a,p,g,rfl,j.symm,(bR Prod.fst f).symm,(bR Prod.snd f).symm,l.symm⟩
theorem Fits.append{b d:cS MapEntry}{m n:eY}(h:Fits b m)(k:Fits d n):Fits (b++d) (m++n):=by
 unfold Fits at*;rw[aN,aN,h,k]
theorem Gh{d:Array MapEntry}{seen:Array M}{f e:cS MapEntry}{g:MapEntry}(l:(d.toList.map (·.born)).Nodup)(i:(leftOf d seen).toList=f++g::e):(leftOf d<|seen.push g.born).toList=f++e:=by
 have h:(leftOf d<|seen.push g.born).toList=(leftOf d seen).toList.filter (λx=>!(x.born==g.born)):=by simp only[leftOf,Array.toList_filter,List.filter_filter];grind
 have b:((leftOf d seen).toList.map (·.born)).Nodup:=by(have:(leftOf d seen).toList.Sublist d.toList:=by simp[leftOf]);grind
 rw[h,i];rw[i]at b;simp only[aN,bV]at b;obtain⟨_,j,k⟩:=jf.1 b;grind[nodup_cons,filter_append,filter_cons_of_neg,filter_eq_self,mem_map]
theorem ME{P:Program}{w:Z}{mt k h g:M}{m:eY}(l:P.underlying mt=H (.map k h))(n:gm w g m):∃e,(Instr.range mt<|.map<|H g).run P w=.ok (aA<|z<|G w) e/\pq e g (z<|G w) m m/\w.grownBy e none/\z (G e)=z (G w)+1:=by
 obtain⟨d,b,f,i,j⟩:=n;refine⟨_,run_range_map w mt k h g d b l f,⟨d,b,b,#[],b,((oE w _).2 g<|ar f).trans f,i,j,(oE w _).1,j.1,ai _,ai _,?_⟩,dy w _ none,by simp⟩;have:leftOf d #[]=d:=by simp[leftOf]
 rw[this];exact i
theorem PE{P:Program}{w:Z}{v r:M}{ac left:eY}(aa:pq w v r ac left)(N:TypeId):(left=[]/\(Instr.next (aA r) bj N).run P w=.ok (dd #[aK bj]) w)\/∃m L g p,left=m++L::g/\(Instr.next (aA r) bj N).run P w=.ok (dd #[aK cq,am L.1,L.2]) p/\pq p v r ac (m++g)/\w.grownBy p (H r)/\z (G p)=z (G w)/\(Instr.entry<|aA r).run P p=.ok (dd #[am L.1,L.2]) p:=by
 have D:=aa.ne;obtain⟨l,b,d,seen,O,S,hf,E,T,k,F,t,C⟩:=aa;rcases run_next_at (P:=P) w N r v d O seen l b T S k F with⟨h0,f⟩|⟨x,he,A,h,f⟩;refine .inl ⟨?_,f⟩;(have:(leftOf l seen).toList=[]:=by grind);rw[this]at C;simpa[Fits]using C;obtain⟨m,g,u⟩:=sr he;obtain⟨a,L,ad,rfl,W,n,V,X⟩:=C.split u;(have i:A.heap=w.heap:=by rcases h with rfl|rfl<;>rfl);(have s:A.heap[r]?=H (.mapIter (H v) d seen O):=by rw[i];exact T);have j:(setBlock A r<|.mapIter (H v) d (seen.push x.born) b).heap[r]?=H (.mapIter (H v) d (seen.push x.born) b):=(fH s).1;have e:∀K,K≠r->(setBlock A r<|.mapIter (H v) d (seen.push x.born) b).heap[K]?=w.heap[K]?:=λK n=>((fH s).2 K n).trans (by rw[i]);have q:=(e v<|λx=>D x.symm).trans S;(have B:x∈l.toList:=by(have:(leftOf l seen).toList.Sublist l.toList:=by simp[leftOf]);grind);refine .inr ⟨a,L,ad,_,rfl,by rw[<-n,<-V];exact f,⟨l,b,d,_,b,q,hf,E,j,k,t,t,by rw[Gh E.2.1 u];exact W.append X⟩,⟨?_,?_,?_,?_,λK _ n=>e K<|λx=>n<|by rw[x]⟩,?_,?_⟩;rcases h with rfl|rfl<;>rfl;rcases h with rfl|rfl<;>rfl;rcases h with rfl|rfl<;>rfl;simp[setBlock,i];simp[setBlock,i];rw[<-n,<-V];exact run_entry_at _ r v d seen l b x j q B E.2.1
section
variable{P:Program}(w:Z){c:Array Oper}{rest:cS Oper}{o:Oper}{a:Act}{Q:Exit->Act->Z->Prop}
theorem qL(k:o.guard=none)(h:Operand)(t:TypeId)(g:o.op=Op.range t h)(x u:TypeId)(m:P.underlying t=H (.map x u))(i:M)(n:eY)(l:a.eval h=.map (H i))(v:gm w i n)(j:∀b,pq b i (z<|G w) n n->w.grownBy b none->z (G b)=z (G w)+1->wpList P c Q rest (a.put o.dst<|aA<|z<|G w) b):wpList P c Q (o::rest) a w:=by
 refine kD k λs e=>?_;obtain⟨b,d,p,q,r⟩:=ME m v;unfold Oper.wp;simp[execOp,g,l,d,Result.andThen];exact e _ _<|j b p q r
theorem pG(u:o.guard=none)(l:Operand)(k:o.op=Op.next l bj)(x r:M)(A left:eY)(rk:a.eval l=aA r)(C:pq w x r A left)(h:left=[]->wpList P c Q rest (a.put o.dst<|dd #[aK bj]) w)(i:∀e p b g,left=e++p::b->pq g x r A (e++b)->w.grownBy g (H r)->z (G g)=z (G w)->(Instr.entry<|aA r).run P g=.ok (dd #[am p.1,p.2]) g->wpList P c Q rest (a.put o.dst<|dd #[aK cq,am p.1,p.2]) g):wpList P c Q (o::rest) a w:=by
 refine kD u λB j=>?_;unfold Oper.wp;rcases PE (P:=P) C o.type with⟨m,d⟩|⟨e,p,b,g,v,d,n,q,s,t⟩;simp[execOp,k,rk,d,Result.andThen];exact j _ _<|h m;simp[execOp,k,rk,d,Result.andThen];exact j _ _<|i e p b g v n q s t
end
end
section
open ChangeMaps (setBlock)
abbrev gA:=cS<|U×ab
def gA.get(m:gA)(k:U):Option ab:=match m with
 |[]=>none
 |p::r=>if p.1=k then H p.2 else gA.get r k
def ju(b:cS MapEntry)(m:gA):Prop:=b.map (λe=>(e.key,e.val))=m.map (λp=>(aq p.1,p.2))
theorem ju.nil:ju [] []:=rfl
theorem ju.cons_inv{e:MapEntry}{b:cS MapEntry}{m:gA}(h:ju (e::b) m):∃p r,m=p::r/\e.key=aq p.1/\e.val=p.2/\ju b r:=by
 cases m with
 |nil=>simp[ju]at h
 |cons p r=>
  simp[ju]at h;exact⟨p,r,rfl,h.1.1,h.1.2,h.2⟩
theorem Fi(k:U):∀(b:cS MapEntry)(m:gA)(i:M),ju b m->∃p,Instr.findNow (.int .i64) (aq k) b i=H ((m.get k).map λv=>(p,v)):=by
 intro b;induction b with
 |nil=>
  intro m i h;obtain rfl:m=[]:=by simpa[ju]using h
  exact⟨0,rfl⟩
 |cons s b n=>
  intro m i h;obtain⟨q,r,rfl,e,l,j⟩:=h.cons_inv;by_cases f:q.1=k
  .refine⟨i,?_⟩;simp[Instr.findNow,Instr.sameNow,e,gA.get,f,l]
  .obtain⟨p,g⟩:=n r (i+1) j;refine⟨p,?_⟩;have d:(k==q.1)=bj:=by grind
   simp[Instr.findNow,Instr.sameNow,e,gA.get,f,d,g]
def kQ(w:Z)(e:M)(m:gA):Prop:=∃d b,w.heap[e]?=H (.map d b)/\ju d.toList m/\MapKept.Stamped d b
def gA.put(m:gA)(k:U)(v:ab):gA:=match m with
 |[]=>[(k,v)]
 |p::r=>if p.1=k then(k,v)::r else p::gA.put r k v
def gA.del(m:gA)(k:U):gA:=match m with
 |[]=>[]
 |p::r=>if p.1=k then r else p::gA.del r k
theorem ju.cons{e:MapEntry}{b:cS MapEntry}{p:U×ab}{m:gA}(d:e.key=aq p.1)(f:e.val=p.2)(h:ju b m):ju (e::b) (p::m):=by
 simp[ju,d,f];exact h
theorem Eo(k:U):∀(d:cS MapEntry)(m:gA)(q:M),ju d m->(Instr.findNow (.int .i64) (aq k) d q=H none/\m.get k=none/\(∀e∈d,e.key≠aq k)/\m.del k=m/\∀v,m.put k v=m++[(k,v)])\/∃r e,Instr.findNow (.int .i64) (aq k) d q=H (H (q+r,e.val))/\d[r]?=H e/\e.key=aq k/\m.get k=H e.val/\(∀v,ju (d.modify r λe=>{e with key:=aq k,val:=v})<|m.put k v)/\ju (d.eraseIdx r) (m.del k):=by
 intro d;induction d with
 |nil=>
  intro m q u;obtain rfl:m=[]:=by simpa[ju]using u
  exact .inl ⟨rfl,rfl,by simp,rfl,λ_=>rfl⟩
 |cons e d A=>
  intro m q u;obtain⟨B,C,rfl,f,p,n⟩:=u.cons_inv;by_cases b:B.1=k
  .refine .inr ⟨0,e,?_,rfl,by rw[f,b],?_,?_,?_⟩
   .simp[Instr.findNow,Instr.sameNow,f,b]
   .simp[gA.get,b,p]
   .intro v;simp only[gA.put,b,ly,pZ];exact ju.cons rfl rfl n
   .simpa[gA.del,b]using n
  .have g:(k==B.1)=bj:=by grind
   rcases A C (q+1) n with⟨h,i,s,j,l⟩|⟨r,t,h,i,s,j,l,x⟩
   .refine .inl ⟨?_,?_,?_,?_,?_⟩
    .simp[Instr.findNow,Instr.sameNow,f,g,h]
    .simp[gA.get,b,i]
    .grind
    .simp[gA.del,b,j]
    .intro v;simp[gA.put,b,l]
   .refine .inr ⟨r+1,t,?_,by simpa using i,s,?_,?_,?_⟩
    .simp[Instr.findNow,Instr.sameNow,f,g,h];omega
    .simp[gA.get,b,j]
    .intro v;simp only[gA.put,b,np,qa];exact ju.cons f p<|l v
    .simp only[gA.del,b,np,ut];exact ju.cons f p x
theorem Wm{P:Program}{w:Z}{mt v A p:M}{B:gA}(u:P.underlying mt=H (.map v A))(h:P.underlying v=H (.int .i64))(E:kQ w p B)(k:U)(x:ab):∃i,(Instr.mapUpdate mt (.map<|H p) (aq k) x).run P w=.ok () i/\kQ i p (B.put k x)/\w.grownBy i (H p)/\z (G i)=z (G w):=by
 obtain⟨g,b,f,n,t⟩:=E;have d:=je (P:=P) f;rcases Eo k g.toList B 0 n with⟨j,q,l,_,r⟩|⟨C,e,j,q,l,F,r,_⟩;refine⟨setBlock w p<|.map (g.push {key:=aq k,val:=x,born:=b})<|b+1,?_,?_,iQ _ _ _,by simp[setBlock]⟩;simp[Instr.mapUpdate,ep u,d,eM h (show MapKept.IsKey (.int .i64) (aq k)by rfl),eJ h j,fB _ f,Result.andThen,setBlock];refine⟨_,_,(fH f).1,?_,qW t l⟩;rw[r];simp[ju]at n|-;exact n;(have s:g[C]?=H e:=by simpa using q);refine⟨setBlock w p<|.map (g.modify C λe=>{e with key:=aq k,val:=x}) b,?_,?_,iQ _ _ _,by simp[setBlock]⟩;simp[Instr.mapUpdate,ep u,d,eM h (show MapKept.IsKey (.int .i64) (aq k)by rfl),eJ h j,s,l,oo (show MapKept.IsKey (.int .i64) (aq k)by rfl),fB _ f,Result.andThen,setBlock];refine⟨_,_,(fH f).1,?_,pA t _ _ (λ_ _=>rfl) (λD _ m=>by rw[s]at m;grind)⟩;grind
theorem JH{P:Program}{w:Z}{mt k s l:M}{A:gA}(q:P.underlying mt=H (.map k s))(g:P.underlying k=H (.int .i64))(D:kQ w l A)(r:U)(B:TypeId):∃h,(Builtin.delete_ #[mt,k] B #[.map<|H l,aq r]).run P w=.ok (dd #[]) h/\kQ h l (A.del r)/\w.grownBy h (H l)/\z (G h)=z (G w):=by
 obtain⟨d,b,f,n,p⟩:=D;have e:=je (P:=P) f;rcases Eo r d.toList A 0 n with⟨i,j,t,m,u⟩|⟨x,C,i,j,t,m,u,E⟩;refine⟨setBlock w l<|.map d b,?_,?_,iQ _ _ _,by simp[setBlock]⟩;simp[Builtin.delete_,ep q,e,eM g (show MapKept.IsKey (.int .i64) (aq r)by rfl),eJ g i,fB _ f,Result.andThen,setBlock];rw[m];exact⟨_,_,(fH f).1,n,p⟩;(have F:d[x]?=H C:=by simpa using j);(have v:x<d.size:=by have:=jv.1 j;grind);refine⟨setBlock w l<|.map (d.eraseIdxIfInBounds x) b,?_,?_,iQ _ _ _,by simp[setBlock]⟩;simp[Builtin.delete_,ep q,e,eM g (show MapKept.IsKey (.int .i64) (aq r)by rfl),eJ g i,fB _ f,Result.andThen,setBlock];refine⟨_,_,(fH f).1,?_,vR p _⟩;simp_all
theorem kQ.kept{w h:Z}{i:M}{n:gA}{d:Option M}(p:kQ w i n)(l:w.grownBy h d)(e:H i≠d):kQ h i n:=by
 obtain⟨j,b,g,k,m⟩:=p;exact⟨j,b,(l.block i (ar g) e).trans g,k,m⟩
theorem kQ.alloc{w:Z}{b:M}{m:gA}(h:kQ w b m)(o:Obj):kQ (cG w o) b m:=h.kept (dy w o none)<|by simp
theorem kQ.lt{w:Z}{b:M}{m:gA}(h:kQ w b m):b<z (G w):=by
 obtain⟨_,_,d,_⟩:=h;exact ar d
section
variable{P:Program}(w:Z){c:Array Oper}{rest:cS Oper}{o:Oper}{a:Act}{Q:Exit->Act->Z->Prop}
theorem Sb(k:o.guard=none)(h x:Operand)(u q:TypeId)(g:o.op=Op.call {callee:=Callee.builtin Builtin.delete,args:=#[h,x],argTypes:=#[u,q]})(A:TypeId)(n:P.underlying u=H (.map q A))(l:P.underlying q=H (.int .i64))(i:M)(t:gA)(m:a.eval h=.map (H i))(B:kQ w i t)(b:U)(p:a.eval x=aq b)(j:∀e,kQ e i (t.del b)->w.grownBy e (H i)->wpList P c Q rest (a.put o.dst<|dd #[]) e):wpList P c Q (o::rest) a w:=by
 refine kD k λv f=>?_;obtain⟨e,d,r,s,_⟩:=JH n l B b o.type;unfold Oper.wp;simp[execOp,g,resolve,invoke,builtin,m,p,d,Result.andThen];exact f _ _<|j e r s
end
def pS(w:Z)(g r:M)(m left:gA):Prop:=∃e d b seen f,w.heap[g]?=H (.map e d)/\ju e.toList m/\MapKept.Stamped e d/\w.heap[r]?=H (.mapIter (H g) b seen f)/\(∀x∈e.toList,x.born<b)/\b<=f/\b<=d/\ju (leftOf e seen).toList left
theorem pS.ne{w:Z}{d r:M}{m left:gA}(h:pS w d r m left):r≠d:=by
 obtain⟨e,b,_,_,_,g,_,_,i,_⟩:=h;grind
theorem pS.lt{w:Z}{b r:M}{m left:gA}(h:pS w b r m left):r<z (G w):=by
 obtain⟨g,d,_,_,_,_,_,_,e,_⟩:=h;exact ar e
theorem pS.kept{w e:Z}{g r:M}{s left:gA}(t:pS w g r s left)(p:e.heap[g]?=w.heap[g]?)(q:e.heap[r]?=w.heap[r]?):pS e g r s left:=by
 obtain⟨i,b,d,seen,h,j,k,l,m,n⟩:=t;exact⟨i,b,d,seen,h,p.trans j,k,l,q.trans m,n⟩
theorem ju.split{e:cS MapEntry}{n:gA}{d b:cS MapEntry}{h:MapEntry}(i:ju e n)(m:e=d++h::b):∃a p g,n=a++p::g/\ju d a/\h.key=aq p.1/\h.val=p.2/\ju b g:=by
 subst m;unfold ju at i;rw[aN,bV]at i;obtain⟨a,q,rfl,j,k⟩:=iC.1 i.symm;obtain⟨p,g,rfl,f,l⟩:=nt.1 k;exact⟨a,p,g,rfl,j.symm,(bR Prod.fst f).symm,(bR Prod.snd f).symm,l.symm⟩
theorem ju.append{b d:cS MapEntry}{m n:gA}(h:ju b m)(k:ju d n):ju (b++d) (m++n):=by
 unfold ju at*;rw[aN,aN,h,k]
theorem MF{P:Program}{w:Z}{mt k h g:M}{m:gA}(l:P.underlying mt=H (.map k h))(n:kQ w g m):∃e,(Instr.range mt<|.map<|H g).run P w=.ok (aA<|z<|G w) e/\pS e g (z<|G w) m m/\w.grownBy e none/\z (G e)=z (G w)+1:=by
 obtain⟨d,b,f,i,j⟩:=n;refine⟨_,run_range_map w mt k h g d b l f,⟨d,b,b,#[],b,((oE w _).2 g<|ar f).trans f,i,j,(oE w _).1,j.1,ai _,ai _,?_⟩,dy w _ none,by simp⟩;have:leftOf d #[]=d:=by simp[leftOf]
 rw[this];exact i
theorem PF{P:Program}{w:Z}{v r:M}{ac left:gA}(aa:pS w v r ac left)(N:TypeId):(left=[]/\(Instr.next (aA r) bj N).run P w=.ok (dd #[aK bj]) w)\/∃m L g p,left=m++L::g/\(Instr.next (aA r) bj N).run P w=.ok (dd #[aK cq,aq L.1,L.2]) p/\pS p v r ac (m++g)/\w.grownBy p (H r)/\z (G p)=z (G w)/\(Instr.entry<|aA r).run P p=.ok (dd #[aq L.1,L.2]) p:=by
 have D:=aa.ne;obtain⟨l,b,d,seen,O,S,hf,E,T,k,F,t,C⟩:=aa;rcases run_next_at (P:=P) w N r v d O seen l b T S k F with⟨h0,f⟩|⟨x,he,A,h,f⟩;refine .inl ⟨?_,f⟩;(have:(leftOf l seen).toList=[]:=by grind);rw[this]at C;simpa[ju]using C;obtain⟨m,g,u⟩:=sr he;obtain⟨a,L,ad,rfl,W,n,V,X⟩:=C.split u;(have i:A.heap=w.heap:=by rcases h with rfl|rfl<;>rfl);(have s:A.heap[r]?=H (.mapIter (H v) d seen O):=by rw[i];exact T);have j:(setBlock A r<|.mapIter (H v) d (seen.push x.born) b).heap[r]?=H (.mapIter (H v) d (seen.push x.born) b):=(fH s).1;have e:∀K,K≠r->(setBlock A r<|.mapIter (H v) d (seen.push x.born) b).heap[K]?=w.heap[K]?:=λK n=>((fH s).2 K n).trans (by rw[i]);have q:=(e v<|λx=>D x.symm).trans S;(have B:x∈l.toList:=by(have:(leftOf l seen).toList.Sublist l.toList:=by simp[leftOf]);grind);refine .inr ⟨a,L,ad,_,rfl,by rw[<-n,<-V];exact f,⟨l,b,d,_,b,q,hf,E,j,k,t,t,by rw[Gh E.2.1 u];exact W.append X⟩,⟨?_,?_,?_,?_,λK _ n=>e K<|λx=>n<|by rw[x]⟩,?_,?_⟩;rcases h with rfl|rfl<;>rfl;rcases h with rfl|rfl<;>rfl;rcases h with rfl|rfl<;>rfl;simp[setBlock,i];simp[setBlock,i];rw[<-n,<-V];exact run_entry_at _ r v d seen l b x j q B E.2.1
section
variable{P:Program}(w:Z){c:Array Oper}{rest:cS Oper}{o:Oper}{a:Act}{Q:Exit->Act->Z->Prop}
end
theorem Yo{P:Program}{w:Z}{mt l i n:M}{m:gA}{v:TypeInfo}{d:ab}(t:P.underlying mt=H (.map l i))(j:P.underlying l=H (.int .i64))(r:P.info? i=H v)(u:v.zero=H d)(x:kQ w n m)(k:U):(Instr.lookup mt (.map<|H n) (aq k) cq).run P w=.ok (dd #[(m.get k).getD d,aK (m.get k).isSome]) w:=by
 obtain⟨e,b,q,p,_⟩:=x;obtain⟨A,s⟩:=Fi k e.toList m 0 p;have f:=eM (P:=P) (w:=w) (k:=aq k) j (by rfl) e.isEmpty 9999;have g:=eJ (P:=P) (w:=w) j s;have h:(getObj n).run P w=.ok (.map e b) w:=by simp[getObj,Sem.run,q]
 unfold Instr.lookup;rw[kE,ep t];simp only[jZ,kE,h,rP];rw[show(10000:M)=9999+1 from rfl,f];simp only[jZ,g];cases hg:m.get k with
 |none=>simp[zeroValue,typeInfo,r,u]
 |some B=>simp
theorem ju.length{b:cS MapEntry}{m:gA}(h:ju b m):y b=y m:=by
 have:=bR y h;grind
theorem XM{P:Program}{w:Z}{mt j f l:M}{m:gA}(i:P.underlying mt=H (.map j f))(p:kQ w l m)(k:TypeId):(Builtin.len_ #[mt] k #[.map<|H l]).run P w=.ok (aq<|y m) w:=by
 obtain⟨n,b,h,g,_⟩:=p;have d:=je (P:=P) h;have e:=g.length;rw[kw]at e;simp[Builtin.len_,ep i,d,goInt,Result.andThen,e]
theorem kQ.new(w:Z):kQ (cG w<|.map #[] 0) (z<|G w) []:=by
 refine⟨#[],0,?_,ju.nil,pX 0⟩;show(w.heap.push _)[z<|G w]?=_;simp
theorem kQ.di{w w':Z}{b:M}{m:gA}(i:kQ w b m)(h:w'.heap[b]?=w.heap[b]?):kQ w' b m:=by
 obtain⟨e,d,f,g⟩:=i;exact⟨e,d,h.trans f,g⟩
end
section
open ChangeMaps (setBlock)
def lh(w:Z)(f:M)(g:TypeDesc)(e:ab->Prop):Prop:=∃d b,w.heap[f]?=H (.map d b)/\MapKept.Stamped d b/\(∀x∈d.toList,MapKept.IsKey g x.key)/\(∀x∈d.toList,x.val=dE #[])/\∀k,e k↔∃x∈d.toList,x.key=k
theorem lh.lt{w:Z}{b:M}{g:TypeDesc}{e:ab->Prop}(h:lh w b g e):b<z (G w):=by
 obtain⟨_,_,d,_⟩:=h;exact ar d
theorem lh.di{w w':Z}{b:M}{i:TypeDesc}{e:ab->Prop}(k:lh w b i e)(j:w'.heap[b]?=w.heap[b]?):lh w' b i e:=by
 obtain⟨f,d,g,h⟩:=k;exact⟨f,d,j.trans g,h⟩
theorem lh.new(w:Z)(d:TypeDesc):lh (cG w<|.map #[] 0) (z<|G w) d az:=by
 refine⟨#[],0,?_,⟨by simp,by simp,by simp⟩,by simp,by simp,by simp⟩;show(w.heap.push _)[z<|G w]?=_;simp
theorem lh.congr{w:Z}{m:M}{n:TypeDesc}{e d:ab->Prop}(q:lh w m n e)(p:∀k,d k↔e k):lh w m n d:=by
 obtain⟨f,b,g,h,i,j,l⟩:=q;exact⟨f,b,g,h,i,j,λk=>(p k).trans<|l k⟩
theorem AT{P:Program}{w:Z}{mt r n t:M}{u:TypeDesc}{q:ab->Prop}{K:TypeInfo}(D:P.underlying mt=H (.map r n))(k:P.underlying r=H u)(A:P.info? n=H K)(E:K.zero=H (dE #[]))(L:lh w t u q)(m:ab)(e:MapKept.IsKey u m)(s:Bool)(C:s=cq↔q m):(Instr.lookup mt (.map<|H t) m cq).run P w=.ok (dd #[dE #[],aK s]) w:=by
 obtain⟨g,b,x,N,l,O,B⟩:=L;have i:=eM (P:=P) (w:=w) (k:=m) k e g.isEmpty 9999;have j:(getObj t).run P w=.ok (.map g b) w:=by simp[getObj,Sem.run,x]
 unfold Instr.lookup;rw[kE,ep D];simp only[jZ,kE,j,rP];rw[show(10000:M)=9999+1 from rfl,i];simp only[jZ];rcases MapKept.findNow_spec e g.toList 0 l with⟨h,p⟩|⟨S,F,h,p,v⟩;have d:=eJ (P:=P) (w:=w) k h;(have:s=bj:=by grind);simp[d,zeroValue,typeInfo,A,E,this];have d:=eJ (P:=P) (w:=w) k h;have f:F∈g.toList:=ew p;have:s=cq:=C.2<|(B m).2 ⟨F,f,v⟩;simp_all
theorem yQ{P:Program}{w:Z}{mt K N v:M}{L:TypeDesc}{F:ab->Prop}(D:P.underlying mt=H (.map K N))(q:P.underlying K=H L)(T:lh w v L F)(s:ab)(i:MapKept.IsKey L s):∃r,(Instr.mapUpdate mt (.map<|H v) s<|dE #[]).run P w=.ok () r/\lh r v L (λx=>F x\/x=s)/\w.grownBy r (H v)/\z (G r)=z (G w):=by
 obtain⟨g,b,m,C,n,V,S⟩:=T;have l:=je (P:=P) m;rcases MapKept.findNow_spec i g.toList 0 n with⟨t,p⟩|⟨E,e,t,p,O⟩;refine⟨setBlock w v<|.map (g.push {key:=s,val:=dE #[],born:=b})<|b+1,?_,?_,iQ _ _ _,by simp[setBlock]⟩;simp[Instr.mapUpdate,ep D,l,eM q i,eJ q t,fB _ m,Result.andThen,setBlock];refine⟨_,_,(fH m).1,qW C p,?_,?_,?_⟩;(grind);(grind);intro x;simp only[Array.toList_push,aE,dA];grind
 (have A:g[E]?=H e:=by simpa using p);have B:e∈g.toList:=ew p;refine⟨setBlock w v<|.map (g.modify E λe=>{e with key:=s,val:=dE #[]}) b,?_,?_,iQ _ _ _,by simp[setBlock]⟩;simp[Instr.mapUpdate,ep D,l,eM q i,eJ q t,A,O,oo i,fB _ m,Result.andThen,setBlock];(have j:∀h,g[E]?=H h->h.key=s:=λh d=>by rw[A]at d;grind);refine⟨_,_,(fH m).1,pA C _ _ (λ_ _=>rfl)<|λh _ d=>(j h d).symm,MapKept.isKey_modify n _ _<|λh d=>(j h d).symm,?_,?_⟩;(grind[Array.toList_modify,getElem?_of_mem,getElem?_modify,mem_of_getElem?]);intro x;have k:((g.modify E λe=>{e with key:=s,val:=dE #[]}).toList.map (·.key))=g.toList.map (·.key):=MapKept.modify_keys _ _<|λh d=>(j h d).symm;(have u:(∃b∈(g.modify E λe=>{e with key:=s,val:=dE #[]}).toList,b.key=x)↔∃b∈g.toList,b.key=x:=by rw[<-bJ (f:=λb:MapEntry=>b.key),<-bJ (f:=λb:MapEntry=>b.key),k]);rw[u,<-S x];grind
section
variable{P:Program}(w:Z){c:Array Oper}{rest:cS Oper}{o:Oper}{a:Act}{Q:Exit->Act->Z->Prop}
theorem tY(n:o.guard=none)(i x j:Operand)(B:TypeId)(g:o.op=Op.mapUpdate B i x j)(A D:TypeId)(r:P.underlying B=H (.map A D))(l:TypeDesc)(p:P.underlying A=H l)(k:M)(h:ab->Prop)(q:a.eval i=.map (H k))(E:lh w k l h)(b:ab)(f:MapKept.IsKey l b)(t:a.eval x=b)(s:a.eval j=dE #[])(m:∀w',lh w' k l (λx=>h x\/x=b)->w.grownBy w' (H k)->wpList P c Q rest (a.put o.dst iA) w'):wpList P c Q (o::rest) a w:=by
 refine kD n λC e=>?_;obtain⟨w',d,u,v,_⟩:=yQ r p E b f;unfold Oper.wp;simp[execOp,g,q,t,s,d,Result.andThen];exact e _ _<|m w' u v
end
end
