import Derived.Carry
import Derived.Laws.CopyRow
import Derived.Laws.NewBlocks
import Derived.Laws.OwnMore
import Derived.Lib.AppendZerosOnto
import Derived.Lib.Overlaps
import Derived.Maps.RangeWalk
import Derived.Shelf.RegionOpenPlain
import Derived.Test.YtbgjhlkoccmfaaaGreatDoorC2
open _root_ renaming List.length→y,Option.some→M,Array.size→G,Go.World.heap→H,Go.Value.ownBlock→cN,Go.World.cell?→bA,Go.World.setCell→cP,Go.World.alloc→dw,Bool.false→bD,Bool.true→cz,Nat→R,Int→Y,List→cy,Go.Calls→cR,Go.undef→jm,Go.Proofs.Tryz.prog→bN,Go.Value.slice→am,Go.Value.string→aw,Go.Value.bool→aO,Go.Value.pointer→ee,Go.Value.tuple→de,Go.Value.agg→ef,Go.World.frozen?→iH,Go.World.ownsRow→fD,Go.Value.nilIface→ib,Go.Act.put→ig,Nat.reduceAdd→jZ,Go.RowKit.Below→gC,Bool→eN,Option.none→dE,rfl→z,Or.inl→J,Or.inr→bj
namespace Go.Proofs.YtbgjhlkoccmfaaaGreatDoor
open ChangeShapes WideShapes RowKit Proofs.Tryz List
set_option maxHeartbeats 16000000
set_option linter.all false
set_option maxRecDepth 100000
variable{a e P:Z}{b c k n T:R}{d w:ae}{i:dB}{m:eD}{W:fB}{r:Y}{s:ju}{B:af}{K:Prop}{Q:iE}{S:E}
section
open ChangeMaps (setBlock)
def gT.gK(m:gT)(k:af)(v:ae):gT:=match m with
 |[]=>[(k,v)]
 |p::r=>if p.1=k then(k,v)::r else p::gT.gK r k v
def gT.dP(m:gT)(k:af):gT:=match m with
 |[]=>[]
 |p::r=>if p.1=k then r else p::gT.dP r k
theorem Fits.Ak{e:MapEntry}{b:cy MapEntry}{p:af×ae}{m:gT}(d:e.key=aw p.1)(f:e.val=p.2)(h:Fits b m):Fits (e::b) (p::m):=by
 simp[Fits,d,f];exact h
theorem JV(k:af):∀(d:cy MapEntry)(m:gT)(r:R),Fits d m->(Instr.findNow .string (aw k) d r=M dE/\m.jn k=dE/\(∀e∈d,e.key≠aw k)/\m.dP k=m/\∀v,m.gK k v=m++[(k,v)])\/∃s e,Instr.findNow .string (aw k) d r=M (M (r+s,e.val))/\d[s]?=M e/\e.key=aw k/\m.jn k=M e.val/\(∀v,Fits (d.modify s λe=>{e with key:=aw k,val:=v})<|m.gK k v)/\Fits (d.eraseIdx s) (m.dP k):=by
 intro d;induction d with
 |nil=>
  intro m r h;obtain rfl:m=[]:=by simpa[Fits]using h
  exact J ⟨z,z,ar,z,λ_=>rfl⟩
 |cons e d A=>
  intro m r h;obtain⟨B,C,rfl,f,q,p⟩:=h.vL;by_cases b:B.1=k
  .refine bj ⟨0,e,?_,z,by rw[f,b],?_,?_,?_⟩
   .simp[Instr.findNow,Instr.sameNow,f,b,ME]
   .simp[gT.jn,b,q]
   .intro v;simp only[gT.gK,b,mS,sG];exact Fits.Ak z z p
   .simpa[gT.dP,b]using p
  .have g:(k==B.1)=bD:=by rw[ME];grind
   obtain⟨i,j,t,l,n⟩|⟨s,u,i,j,t,l,n,x⟩:=A C (r+1) p
   .refine J ⟨?_,?_,?_,?_,?_⟩
    .simp[Instr.findNow,Instr.sameNow,f,g,i]
    .simp[gT.jn,b,j]
    .grind
    .simp[gT.dP,b,l]
    .intro v;simp[gT.gK,b,n]
   .refine bj ⟨s+1,u,?_,dV j,t,?_,?_,?_⟩
    .simp[Instr.findNow,Instr.sameNow,f,g,i];omega
    .simp[gT.jn,b,l]
    .intro v;simp only[gT.gK,b,mz,sH];exact Fits.Ak f q<|n v
    .simp only[gT.dP,b,mz,xy];exact Fits.Ak f q x
theorem jW(w:Z)(d:R)(o:Obj):w.grownBy (setBlock w d o) (M d):=⟨z,z,z,by simp[setBlock],λk _ b=>by
 simp only[setBlock];rw[kX (λe=>b (by rw[e]))]⟩
theorem ED{P:Program}{w:Z}{mt u x p:R}{B:gT}(t:P.underlying mt=M (.map u x))(i:P.underlying u=M .string)(h:iO w p B)(k:af)(v:ae):∃j,(Instr.mapUpdate mt (.map<|M p) (aw k) v).run P w=.ok () j/\iO j p (B.gK k v)/\w.grownBy j (M p)/\G (H j)=G (H w):=by
 let⟨g,b,f,n,s⟩:=h;have d:=kI (P:=P) f;obtain⟨l,q,m,_,r⟩|⟨C,e,l,q,m,D,r,_⟩:=JV k g.toList B 0 n;refine⟨setBlock w p<|.map (g.push {key:=aw k,val:=v,born:=b})<|b+1,?_,?_,jW _ _ _,by simp[setBlock]⟩;simp[Instr.mapUpdate,eV t,d,fS i (show MapKept.IsKey .string (aw k)by trivial),fQ i l,gU _ f,Result.andThen,setBlock];refine⟨_,_,(ia f).1,?_,tG s m⟩;rw[r];simp[Fits]at n|-;exact n;have A:g[C]?=M e:=dV q;refine⟨setBlock w p<|.map (g.modify C λe=>{e with key:=aw k,val:=v}) b,?_,?_,jW _ _ _,by simp[setBlock]⟩;simp[Instr.mapUpdate,eV t,d,fS i (show MapKept.IsKey .string (aw k)by trivial),fQ i l,A,m,qu (show MapKept.IsKey .string (aw k)by trivial),gU _ f,Result.andThen,setBlock];refine⟨_,_,(ia f).1,?_,rJ s _ _ (λ_ _=>rfl) aI⟩;grind
theorem NH{P:Program}{w:Z}{mt l t m:R}{A:gT}(r:P.underlying mt=M (.map l t))(g:P.underlying l=M .string)(h:iO w m A)(s:af)(B:TypeId):∃i,(Builtin.delete_ #[mt,l] B #[.map<|M m,aw s]).run P w=.ok (de #[]) i/\iO i m (A.dP s)/\w.grownBy i (M m)/\G (H i)=G (H w):=by
 let⟨d,b,f,p,q⟩:=h;have e:=kI (P:=P) f;obtain⟨j,k,u,n,v⟩|⟨x,C,j,k,u,n,v,D⟩:=JV s d.toList A 0 p;refine⟨setBlock w m<|.map d b,?_,?_,jW _ _ _,by simp[setBlock]⟩;simp[Builtin.delete_,eV r,e,fS g (show MapKept.IsKey .string (aw s)by trivial),fQ g j,gU _ f,Result.andThen,setBlock];rw[n];exact⟨_,_,(ia f).1,p,q⟩;have:d[x]?=M C:=dV k;(have:x<d.size:=by have:=iq.1 k;grind);refine⟨setBlock w m<|.map (d.eraseIdxIfInBounds x) b,?_,?_,jW _ _ _,by simp[setBlock]⟩;simp[Builtin.delete_,eV r,e,fS g (show MapKept.IsKey .string (aw s)by trivial),fQ g j,gU _ f,Result.andThen,setBlock];refine⟨_,_,(ia f).1,?_,zf q _⟩;simp_all
theorem iO.qR{w i:Z}{j:R}{p:gT}{d:Option R}(h:iO w j p)(m:w.grownBy i d)(e:M j≠d):iO i j p:=by
 let⟨k,b,g,l,n⟩:=h;exact⟨k,b,(m.block j (az g) e).trans g,l,n⟩
theorem iO.aE{w:Z}{b:R}{m:gT}(h:iO w b m)(o:Obj):iO (dw w o) b m:=h.qR (eR w o dE) ar
theorem iO.lt{w:Z}{b:R}{m:gT}(h:iO w b m):b<G (H w):=by
 let⟨_,_,d,_⟩:=h;exact az d
section
variable{P:Program}(w:Z){c:Array Oper}{rest:cy Oper}{o:Oper}{a:Act}{Q:Exit->Act->Z->Prop}
theorem zr(n:o.guard=dE)(j C k:Operand)(B:TypeId)(i:o.op=Op.mapUpdate B j C k)(x E:TypeId)(r:P.underlying B=M (.map x E))(p:P.underlying x=M .string)(l:R)(A:gT)(q:a.eval j=.map (M l))(h:iO w l A)(b:af)(d:ae)(t:a.eval C=aw b)(s:a.eval k=d)(m:∀f,iO f l (A.gK b d)->w.grownBy f (M l)->wpList P c Q rest (a.put o.dst jm) f):wpList P c Q (o::rest) a w:=by
 refine ly n λD g=>?_;let⟨f,e,u,v,_⟩:=ED r p h b d;unfold Oper.wp;simp[execOp,i,q,t,s,e,Result.andThen];exact g _ _<|m f u v
theorem FQ(l:o.guard=dE)(i x:Operand)(v r:TypeId)(g:o.op=Op.call {callee:=Callee.builtin Builtin.delete,args:=#[i,x],argTypes:=#[v,r]})(B:TypeId)(p:P.underlying v=M (.map r B))(m:P.underlying r=M .string)(j:R)(u:gT)(n:a.eval i=.map (M j))(h:iO w j u)(b:af)(q:a.eval x=aw b)(k:∀e,iO e j (u.dP b)->w.grownBy e (M j)->wpList P c Q rest (a.put o.dst<|de #[]) e):wpList P c Q (o::rest) a w:=by
 refine ly l λA f=>?_;let⟨e,d,s,t,_⟩:=NH p m h b o.type;unfold Oper.wp;simp[execOp,g,resolve,invoke,builtin,n,q,d,Result.andThen];exact f _ _<|k e s t
end
end
def lk:Option R->ae
 |none=>.pointer dE
 |some g=>.pointer<|M<|X g 0
abbrev Mv:=af×Option R
def AL(p:Mv):iE:=[aw p.1,lk p.2]
def tP(l:cy Mv):iE:=l.flatMap AL
def LB(l:cy Mv)(i:R)(h:i<y l):(tP l)[i*2]?=M (aw l[i].1)/\(tP l)[i*2+1]?=M (lk l[i].2):=by
 induction l generalizing i with
 |nil=>simp at h
 |cons p r a=>
  cases i with
  |zero=>simp[tP,AL]
  |succ i=>
   have:=a i<|dV h;have e:(i+1)*2=i*2+2:=U;rw[e];simpa[tP,AL]using this
def C5(w:Z)(v:ae)(l:cy Mv):Prop:=Row w 2 v (y l)<|tP l
def OG(m:gT)(x:Mv):gT:=match x.2 with
 |none=>m.dP x.1
 |some g=>m.gK x.1<|lk<|M g
def qP(m:gT)(l:cy Mv):gT:=l.foldl OG m
def OF(m:gT)(l:cy Mv)(n:R)(h:n<y l):qP m (l.take<|n+1)=OG (qP m<|l.take n) l[n]:=by
 unfold qP;rw[aG h,jR];rfl
def sj(h:bA a (X b c)=M d):b<G (H a):=by
 by_cases e:b<G (H a);exact e;unfold World.cell? at h;rw[jF<|dV e]at h;simp at h
def iO.ne{w:Z}{m:gT}(h:iO w b m)(e:bA w (X c k)=M d):c≠b:=by
 let⟨j,a,g,_⟩:=h;intro i;subst i;simp[World.cell?,g]at e
def JJ(E:gT)(o:cy Mv)(u:iO a b E)(P:C5 a d o)(hr:y o<=1000000000000):cR bN 53 #[.map<|M b,d] a λaa K=>aa=aN (de #[])/\iO K b (qP E o)/\a.grownBy K (M b):=by
 obtain⟨h1,⟨rfl,N⟩|⟨C,e,L,rfl,Q,O⟩⟩:=P;(.obtain rfl:o=[]:=bG N;(go_in);go_wp2;(go_loopw [8] (λD wr=>D=ay 0/\wr=a) (λ_ _=>0));(grind);obtain⟨rfl,rfl⟩:=hrel;go_wp2;go_end0;exact⟨z,u,vF _ _⟩)
 .have r:=ak O;go_in
  go_wp2;go_loopw [8] (λD wr=>∃n:R,n<=y o/\D=ay n/\iO wr b (qP E<|o.take n)/\a.grownBy wr (M b)) (λD _=>y o-(intOf D).toNat)
  .exact⟨0,bQ _,z,u,vF _ _⟩
  .obtain⟨n,hn,rfl,f,k⟩:=hrel;by_cases q:n<y o
   .have s:=LB o n q;have p:=r _ _ s.1;have t:=sj p;have v:=u.ne p;have c:wr.heap[C]?=a.heap[C]?:=k.block C t<|dV v;have w:bA wr (X C<|e+n*2)=M (aw o[n].1):=(dZ (w:=a) c).trans<|r _ _ s.1;have m:bA wr (X C<|e+n*2+1)=M (lk o[n].2):=(dZ (w:=a) c).trans (by rw[bJ];exact r _ _ s.2);have B:=ak<|OF E o n q;generalize qP E (o.take n)=W at*;generalize o[n]=ab at*;let⟨F,S⟩:=ab;simp only at w m;have x:=ak f.aE;have A:=ak<|λo=>k.trans<|eR wr o<|M b;cases S with
    |none=>
     simp only[lk]at m;go_wp2_with(first
      |(at_delete;refine FQ _ z _ _ 86 9 z 90 underlying86 underlying9 b W z (x _) F z ?_;intro V l j;have i:=ak l;have g:=ak j))
     go_roundw
     .exact⟨n+1,U,dM,ag B▸i,(A _).trans g⟩
     .simp[intOf];omega
    |some ac=>
     simp only[lk]at m;go_wp2_with(first
      |(at_mapUpdate;refine zr _ z _ _ _ 86 z 9 90 underlying86 underlying9 b W z (x _) F _ z z ?_;intro V l j;have i:=ak l;have g:=ak j))
     go_roundw
     .exact⟨n+1,U,dM,ag B▸i,(A _).trans g⟩
     .simp[intOf];omega
   .have c:n=y o:=U;subst c;go_wp2;go_end0;have:=f;rw[cQ]at this;exact⟨z,this,k⟩
def VX:(prog.info? 135).map (λi=>(i.zero,i.size,i.bytes))=M (M aF,1,24):=aH
def pN(w:Z)(x:ae)(t:TypeId):∀j u,[x][j]?=M u->bA (dw w<|aK #[x] t) (((X (G<|H w) 0):Addr).add j)=M u:=by
 intro j u a;rw[dS];simp_all
structure Is(w w':Z)(db nb sb:R)(mv:ae)(fx:Ff)(m:gT)(n:R)(xs:iE)(mv':ae):Prop where
 S:lU w' db nb sb mv' fx
 l:iO w' nb m
 o:fD w' 0 135 1 mv' n xs
 aA:I (λk=>k=db\/k=nb\/cN mv=M k) w w'
 aZ:cN mv'=cN mv\/∃g,cN mv'=M g/\G (H w)<=g
def GU{L:Ff}(ap:gT)(A:cy Mv)(h:lU e b c k d L)(O:iO e c ap)(hl:C5 e w A)(hr:y A<=1000000000000)(E:fD e 0 135 1 d n Q)(hn:n<=1000000000000):cR bN 65 #[aJ b,w] e λx w'=>x=aN (de #[])/\∃ao,Is e w' b c k d L (qP ap A) (n+1) (Q++[w]) ao:=by
 let⟨i0,ac,ad,al,an⟩:=cZ VX;have HS:=ak<|JJ ap A O hl hr;obtain⟨v,s,rfl⟩:=cG hl;have V:=aX h 0;have t:b≠c:=O.ne V;have D:cN d≠M b:=ud E h cg;have u:cN d≠M c:=by intro x;let⟨p,o⟩:=fZ E x;let⟨K,F,C,_⟩:=O;rw[C]at o;cases o
 have l:∀g p j,iO g c (qP ap A)->e.grownBy g (M c)->fD j 0 135 1 p (n+1) (Q++[am v (y A) s])->fm (dw g<|aK #[am v (y A) s] 135) j d p->bA j (X b 2)=M d/\iH j (X b 2)=bD/\Is e (cP j (X b 2) p) b c k d L (qP ap A) (n+1) (Q++[am v (y A) s]) p:=by intro g p j m f F o;have W:g.heap[b]?=e.heap[b]?:=f.block b (az h)<|dV t;have C:b<G (H g):=au (az h) f.size;have ab:(dw g<|aK #[am v (y A) s] 135).heap[b]?=e.heap[b]?:=(Below.heap_alloc g _ b C).trans W;have aa:j.heap[b]?=e.heap[b]?:=(o.dF.block b dW<|λx=>D x.symm).trans ab;have N:lU j b c k d L:=aa.trans h;have K:cN p≠M b:=ud F N cg;refine⟨by rw[cE N];rfl,cV N,⟨?_,?_,?_,?_,?_⟩⟩;unfold lU;rw[aY N];rfl;exact((m.aE _).qR o.dF<|λx=>u x.symm).qR (eG j b 2 p) aI;exact F.kept (eG j b 2 p)<|bj K;refine((I.eF f aI).aE<|aK #[am v (y A) s] 135).aj (T:=λk=>cN d=M k) (I.eF o.dF<|λk x=>J x) aI|>.aL b 2 p (J<|J z);obtain x|⟨aD,x,hg⟩:=o.f;exact J x;exact bj ⟨aD,x,by have:=f.size;simp at hg;omega⟩
 let⟨HG,HO,P⟩:=eU l (λg(f:e.grownBy g (M c))=>(E.kept f<|bj u).alloc<|aK #[am v (y A) s] 135)<|λg(f:e.grownBy g (M c))=>(dZ (w:=e) (a:=(X b 2))<|f.block b (az h)<|dV t).trans (show bA e (X b 2)=M d by rw[cE h];rfl);obtain⟨xm,cm,rfl⟩:=aM E;clear h O hl E l D u t;go_in
 go_wp2_with(first
  |(go_at_call 53;refine HS.mono ?_;rintro x g⟨rfl,m,f⟩;have:=P g f;have S:=ak m;have B:=ak f;clear m f)
  |(at_builtin;refine cq _ z (.tmp 14) (.tmp 16) 87 z 0 135 i0 aF 1 24 underlying87 ac ad al an z cg _ n Q z (HO g B) (X (G (H g)) 0) 1 1 [.slice v (y A) s] z z (pN _ _ _) (by simp[Value.oneCell']) U U (bQ _) ?_;intro v2 j i r;let⟨av,ax,q⟩:=HG g v2 j S B i r;obtain⟨x2,c2,rfl⟩:=aM i;have HF:=ak q;clear i r q))
 go_end0;exact⟨z,_,HF⟩
structure dj where
 dA:af
 l:R
 A:ae
 bB:eD
 D:Y
def dj.nm(f:dj):af×ae:=(f.dA,lk<|M f.l)
structure DK where
 nb:R
 sb:R
 mv:ae
 fx:Ff
 ah:cy dj
 sm:gT
 l:cy (ae×cy Mv)
 qN:cy dj
variable{f x:DK}
def ft(a:cy dj):R:=(a.map (·.bB.length)).sum
def sw(w:Z)(f:dj):Prop:=w.heap[f.l]?=M (aK #[f.A,ay f.D] 93 (0,0))/\fy w 0 f.A f.bB/\ki f.bB/\0<=f.D/\f.D<=y f.bB/\y f.bB<=1099511627776
def vQ(w:Z)(x:ae×cy Mv):Prop:=C5 w x.1 x.2/\y x.2<=2/\∀k,cN x.1=M k->∃a b,w.heap[k]?=M (aK a 154 b)
def mF(f g:dj):Prop:=f.l≠g.l/\∀k,cN f.A=M k->cN g.A≠M k
def mF.zB{f g:dj}(h:mF f g):mF g f:=⟨λe=>h.1 e.symm,λk e a=>h.2 k a e⟩
structure cJ(w:Z)(db:R)(K:DK):Prop where
 S:lU w db K.nb K.sb K.mv K.fx
 l:iO w K.nb (K.ah.map dj.nm)
 D:iO w K.sb K.sm
 ne:K.nb≠K.sb
 o:fD w 0 135 1 K.mv (y K.l) (K.l.map (·.1))
 bZ:∀x∈K.l,vQ w x
 ah:∀f∈K.ah,sw w f
 fp:K.ah.Pairwise mF
 L:K.fx.ok
 d:ft K.ah<=4611686018427387904
 v:0<=K.fx.d/\K.fx.d<=1099511627776
 sB:∀f∈K.qN,sw w f
 i:∀g∈K.qN,∀f∈K.ah,mF f g
 n:K.qN.Pairwise mF
def DK.j(db:R)(K:DK)(k:R):Prop:=k=db\/k=K.nb\/k=K.sb\/cN K.mv=M k\/(∃x∈K.l,cN x.1=M k)\/∃f∈K.ah++K.qN,f.l=k\/cN f.A=M k
def cJ.dq(h:cJ a c f){d:dj}(e:d∈f.ah++f.qN):sw a d:=(aP.1 e).elim (h.ah d)<|h.sB d
def cJ.dL{w:Z}{db:R}{K:DK}(h:cJ w db K){f:dj}(a:f∈K.ah):y f.bB<=1099511627776:=(h.ah f a).2.2.2.2.2
theorem DK.D{b:dj}(a:b∈f.ah):b∈f.ah++f.qN:=gX _ a
def DK.A{b:dj}(a:b∈f.qN):b∈f.ah++f.qN:=oP _ a
def sw.aA{S:fB}{w w':Z}{f:dj}(h:sw w f)(a:I S w w')(c:¬S f.l)(d:∀k,cN f.A=M k->¬S k):sw w' f:=⟨(a.A _ (az h.1) c).trans h.1,a.aZ h.2.1 d,h.2.2⟩
def vQ.aA{S:fB}{w w':Z}{x:ae×cy Mv}(h:vQ w x)(e:I S w w')(c:∀k,cN x.1=M k->¬S k):vQ w' x:=by
 let⟨m,n,o⟩:=h;refine⟨e.bV m<|λk g=>⟨c k g,?_⟩,n,λk g=>?_⟩;grind
 let⟨a,j,d⟩:=o k g;exact⟨a,j,(e.A k (az d)<|c k g).trans d⟩
def iO.aA{S:fB}{w w':Z}{b:R}{m:gT}(h:iO w b m)(j:I S w w')(e:¬S b):iO w' b m:=by
 let⟨d,c,a,g⟩:=h;exact⟨d,c,(j.A b (az a) e).trans a,g⟩
def iO.pZ{m:gT}(h:iO a b m){d:Array ae}{e:R×R}(j:a.heap[k]?=M (aK d c e)):k≠b:=by
 let⟨g,f,i,_⟩:=h;grind
theorem lj{d e:Array ae}{f g:R×R}(i:a.heap[b]?=M (aK d k f))(j:a.heap[c]?=M (aK e n g))(h:k≠n):b≠c:=by
 grind
def cJ.lt{w:Z}{db:R}{K:DK}(h:cJ w db K):∀k,K.j db k->k<G (H w):=by
 rintro k(rfl|rfl|rfl|e|⟨x,d,e⟩|⟨f,a,rfl|e⟩);exact az h.S;exact h.l.lt;exact h.D.lt;exact(aS h.o k e).2;let⟨_,_,c⟩:=(h.bZ x d).2.2 k e;exact az c;exact az (h.dq a).1;exact(aS (h.dq a).2.1 k e).2
def cJ.aA{S:fB}{w w':Z}{db:R}{K:DK}(h:cJ w db K)(c:I S w w')(a:∀k,K.j db k->¬S k):cJ w' db K where
 S:=(c.A db (az h.S)<|a _<|J z).trans h.S
 l:=h.l.aA c<|a _<|bj<|J z
 D:=h.D.aA c<|a _<|bj<|bj<|J z
 ne:=h.ne
 o:=c.aZ h.o<|λ_ e=>a _<|bj<|bj<|bj<|J e
 bZ x hx:=(h.bZ x hx).aA c<|λ_ e=>a _<|bj<|bj<|bj<|bj<|J ⟨x,hx,e⟩
 ah f hf:=(h.ah f hf).aA c (a _<|bj<|bj<|bj<|bj<|bj ⟨f,DK.D hf,J z⟩)<|λ_ e=>a _<|bj<|bj<|bj<|bj<|bj ⟨f,DK.D hf,bj e⟩
 fp:=h.fp
 L:=h.L
 d:=h.d
 v:=h.v
 sB f hf:=(h.sB f hf).aA c (a _<|bj<|bj<|bj<|bj<|bj ⟨f,DK.A hf,J z⟩)<|λ_ e=>a _<|bj<|bj<|bj<|bj<|bj ⟨f,DK.A hf,bj e⟩
 i:=h.i
 n:=h.n
def cJ.aE{w:Z}{db:R}{K:DK}(h:cJ w db K)(o:Obj):cJ (dw w o) db K:=h.aA ((I.bI aC w).aE o)<|λ_ _=>id
def cJ.p{K:DK}{N:cy Mv}{o r:cy dj}(h:cJ a b K)(j:Is a e b K.nb K.sb K.mv K.fx (o.map dj.nm) (y K.l+1) (K.l.map (·.1)++[d]) w)(Q:vQ a (d,N))(u:∀n∈o,sw a n)(F:o.Pairwise mF)(L:ft o<=ft K.ah)(v:∀n∈r,sw a n)(t:∀O∈r,∀n∈o,mF n O)(x:r.Pairwise mF):cJ e b {K with mv:=w,ah:=o,l:=K.l++[(d,N)],qN:=r}:=by
 have i:∀{q D:R}{B:Array ae}{s:R×R},a.heap[q]?=M (aK B D s)->D≠89->D≠135->¬(q=b\/q=K.nb\/cN K.mv=M q):=by rintro q D B s C E P(g|g|g);exact lj C h.S E g;exact h.l.pZ C g;let⟨f,p⟩:=fZ h.o g;grind
 have m:∀A,vQ a A->vQ e A:=λA k=>k.aA j.aA (λq g=>by let⟨f,s,B⟩:=k.2.2 q g;grind);refine⟨j.S,j.l,h.D.aA j.aA ?_,h.ne,?_,?_,?_,F,h.L,aR L h.d,h.v,?_,t,x⟩;rintro(g|g|g);exact h.D.pZ h.S g.symm;exact h.ne g.symm;let⟨f,p⟩:=fZ h.o g;exact h.D.pZ p z;have:=j.o;grind
 intro A k;obtain k|k:=aP.1 k;exact m A<|h.bZ A k;grind
 intro n c;refine(u n c).aA j.aA (i (u n c).1 cg cg)<|λq g=>?_;let⟨f,p⟩:=fZ (u n c).2.1 g;grind
 intro n c;refine(v n c).aA j.aA (i (v n c).1 cg cg)<|λq g=>?_;let⟨f,p⟩:=fZ (v n c).2.1 g;grind
def Is.j{w p:Z}{db:R}{K:DK}{e:ae}{u:cy Mv}{i j:cy dj}{v:gT}(n:Is w p db K.nb K.sb K.mv K.fx v c Q e)(q:k<=G (H w))(t:∀a,cN d=M a->k<=a)(r:∀f∈i++j,∀a,(f.l=a\/cN f.A=M a)->K.j db a\/k<=a):∀a,({K with mv:=e,ah:=i,l:=K.l++[(d,u)],qN:=j}:DK).j db a->K.j db a\/k<=a:=by
 rintro a(rfl|rfl|rfl|m|⟨x,g,m⟩|⟨f,o,m⟩);exact J<|J z;exact J<|bj<|J z;exact J<|bj<|bj<|J z;obtain h|⟨A,h,s⟩:=n.aZ;exact J<|bj<|bj<|bj<|J<|h.symm.trans m;grind
 obtain g|g:=aP.1 g;exact J<|bj<|bj<|bj<|bj<|J ⟨x,g,m⟩;grind
 grind
def ii:cy dj->af->Option dj
 |[],_=>dE
 |f::r,n=>if f.dA=n then M f else ii r n
def mJ:cy dj->af->cy dj
 |[],_=>[]
 |f::r,n=>if f.dA=n then r else f::mJ r n
def pm:cy dj->dj->cy dj
 |[],f=>[f]
 |g::r,f=>if g.dA=f.dA then f::r else g::pm r f
def PT(a:cy dj)(n:af):(mJ a n).map dj.nm=gT.dP (a.map dj.nm) n:=by
 induction a with
 |nil=>rfl
 |cons f r b=>by_cases h:f.dA=n<;>simp[mJ,gT.dP,dj.nm,h,<-b]
def Ol(a:cy dj)(f:dj):(pm a f).map dj.nm=gT.gK (a.map dj.nm) f.dA (lk<|M f.l):=by
 induction a with
 |nil=>rfl
 |cons g r b=>by_cases h:g.dA=f.dA<;>simp[pm,gT.gK,dj.nm,h,<-b]
def eM{a:cy dj}{f:dj}(h:ii a B=M f):f.dA=B/\f∈a/\gT.jn (a.map dj.nm) B=M (lk<|M f.l):=by
 induction a with
 |nil=>cases h
 |cons i r g=>
  by_cases e:i.dA=B
  .simp[ii,e]at h;subst h;exact⟨e,ar,by simp[gT.jn,dj.nm,e]⟩
  .simp[ii,e]at h;let⟨b,c,d⟩:=g h;exact⟨b,by simp[c],by simpa[gT.jn,dj.nm,e]using d⟩
def AQ{a:cy dj}(h:ii a B=dE):gT.jn (a.map dj.nm) B=dE:=by
 induction a with
 |nil=>rfl
 |cons g r b=>
  by_cases e:g.dA=B
  .simp[ii,e]at h
  .simp[ii,e]at h;simpa[gT.jn,dj.nm,e]using b h
theorem oG(a:cy dj)(n:af):(mJ a n).Sublist a:=by
 induction a with
 |nil=>exact kJ _
 |cons f r b=>
  by_cases h:f.dA=n
  .simp[mJ,h]
  .simpa[mJ,h]using b
def vJ{a:cy dj}{f:dj}(d:a.Pairwise mF)(h:ii a B=M f):∀g∈mJ a B,mF f g:=by
 induction a with
 |nil=>cases h
 |cons g r j=>
  let⟨c,i⟩:=dp.1 d;by_cases e:g.dA=B
  .simp[ii,e]at h;subst h;simpa[mJ,e]using c
  .simp[ii,e]at h;intro x b;simp[mJ,e]at b;obtain rfl|b:=b
   .exact(c f (eM h).2.1).zB
   grind
def xH{a:cy dj}{f x:dj}(h:x∈pm a f):x=f\/x∈mJ a f.dA:=by
 induction a with
 |nil=>left;simpa[pm]using h
 |cons g r b=>
  by_cases e:g.dA=f.dA
  .simp[pm,e]at h;simpa[mJ,e]using h
  .simp[pm,e]at h;simp[mJ,e];grind
def GF{a:cy dj}{f:dj}(b:(mJ a f.dA).Pairwise mF)(h:∀g∈mJ a f.dA,mF f g):(pm a f).Pairwise mF:=by
 induction a with
 |nil=>simp[pm]
 |cons g r j=>
  by_cases e:g.dA=f.dA
  .simp only[mJ,e,mS]at b h;simp only[pm,e,mS];simp_all
  .simp only[mJ,e,mz]at b h;simp only[pm,e,mz];let⟨d,i⟩:=dp.1 b;refine dp.2 ⟨λx c=>?_,aI⟩;obtain rfl|c:=xH c
   .exact(h g ar).zB
   grind
def WF{b:cy dj}{f:dj}(a:f.dA≠B):mJ (pm b f) B=pm (mJ b B) f:=by
 induction b with
 |nil=>simp[mJ,pm,a]
 |cons g r d=>
  by_cases e:g.dA=f.dA
  .have:g.dA≠B:=by rwa[e]
   simp[mJ,pm,e,a]
  .by_cases c:g.dA=B
   .have:¬B=f.dA:=λh=>a h.symm;simp[mJ,pm,c,this]
   .simp[mJ,pm,e,c,d]
def LY{m:gT}(h:m.jn B=dE)(v:ae):m.gK B v=m++[(B,v)]:=by
 induction m with
 |nil=>rfl
 |cons p r b=>
  by_cases a:p.1=B
  .simp[gT.jn,a]at h
  .simp[gT.jn,a]at h;simp[gT.gK,a,b h]
structure pR(w w':Z)(db:R)(K K':DK):Prop where
 ok:cJ w' db K'
 aA:I (K.j db) w w'
 j:∀k,K'.j db k->K.j db k\/G (H w)<=k
 fx:Fx K.fx K'.fx
def pR.aj{w w' c:Z}{db:R}{K d a:DK}(h:pR w w' db K d)(k:pR w' c db d a):pR w c db K a:=⟨k.ok,h.aA.aj k.aA h.j,λx e=>(k.j x e).elim (h.j x)<|λg=>bj<|aR h.aA.D g,h.fx.aj k.fx⟩
def pR.bI{w:Z}{db:R}{K:DK}(h:cJ w db K):pR w w db K K:=⟨h,I.bI _ _,λ_ c=>J c,Fx.bI _⟩
def pR.bH(h:pR a e b f x)(c:I aC e P):pR a P b f x:=⟨h.ok.aA c<|λ_ _=>id,h.aA.t c,h.j,h.fx⟩
def GV(m:gT)(x:Mv):qP m [x]=OG m x:=rfl
def cJ.Nu(h:cJ a b f){k:R}(e:cN f.mv=M k):k≠f.sb/\k≠f.nb/\k≠b:=by
 let⟨d,c⟩:=fZ h.o e;exact⟨h.D.pZ c,h.l.pZ c,lj c h.S cg⟩
def cJ.R9{K:DK}{j:Ff}(h:cJ a b K)(m:lU e b K.nb K.sb K.mv j)(d:I (λk=>k=b) a e)(f:Fx K.fx j):pR a e b K {K with fx:=j}:=by
 refine⟨⟨m,h.l.aA d ?_,h.D.aA d ?_,h.ne,d.aZ h.o ?_,?_,?_,h.fp,f.ok h.L,h.d,f.d▸h.v,?_,h.i,h.n⟩,d.aT<|λx c=>J<|J c,λk c=>J c,f⟩;exactλc=>h.l.pZ h.S c.symm;exactλc=>h.D.pZ h.S c.symm;exactλk c=>(h.Nu c).2.2;intro x l;refine(h.bZ x l).aA d<|λk c=>?_;let⟨g,n,i⟩:=(h.bZ x l).2.2 k c;exact lj i h.S cg;intro j f;have hF:=h.ah j f;refine hF.aA d (lj hF.1 h.S cg)<|λk c=>?_;let⟨g,i⟩:=fZ hF.2.1 c;exact lj i h.S cg;intro j f;have hF:=h.sB j f;refine hF.aA d (lj hF.1 h.S cg)<|λk c=>?_;let⟨g,i⟩:=fZ hF.2.1 c;exact lj i h.S cg
inductive tY where
 |cr (n:af)|ap (n:af) (bs:eD)|sy (n:af)|rn (a b:af)|rm (n:af)|sd
def Qt:tY->DK->DK->Prop
 | .cr n,K,a=>∃g b,a.ah=K.ah++[⟨n,g,aF,[],0⟩]/\(a.sm,a.qN)=(K.sm,K.qN)/\a.l=K.l++[(b,[(n,M g)])]/\ii K.ah n=dE
 | .ap n e,K,a=>∃F x,ii K.ah n=M F/\a.ah=pm K.ah {F with A:=x,bB:=F.bB++e}/\(a.sm,a.qN)=(K.sm,K.qN)/\a.l=K.l
 | .sy n,K,a=>∃F,ii K.ah n=M F/\a.ah=pm K.ah {F with D:=y F.bB}/\(a.sm,a.qN)=(K.sm,K.qN)/\a.l=K.l
 | .rn c d,K,a=>∃F b,ii K.ah c=M F/\a.ah=pm (mJ K.ah c) {F with dA:=d}/\(a.sm,a.qN)=(K.sm,K.qN++(ii K.ah d).toList)/\a.l=K.l++[(b,[(d,M F.l),(c,dE)])]
 | .rm n,K,a=>∃F b,ii K.ah n=M F/\a.ah=mJ K.ah n/\(a.sm,a.qN)=(K.sm,K.qN++[F])/\a.l=K.l++[(b,[(n,dE)])]
 | .sd,K,a=>a.ah=K.ah/\(a.sm,a.qN)=((K.l.map (·.2)).foldl qP K.sm,K.qN)/\a.l=[]
def wR(K a:DK):Prop:=a.ah=K.ah/\(a.sm,a.qN)=(K.sm,K.qN)/\a.l=K.l
def mr:cy tY->DK->DK->Prop
 |[],K,a=>wR K a
 |o::l,K,a=>∃b,Qt o K b/\mr l b a
def wR.aj{K c a:DK}(h:wR K c)(k:wR c a):wR K a:=⟨k.1.trans h.1,k.2.1.trans h.2.1,k.2.2.trans h.2.2⟩
def Qt.pa{o:tY}{a:DK}(h:wR f x)(k:Qt o x a):Qt o f a:=by
 let⟨c,d,e⟩:=h;let⟨g,i⟩:=Prod.mk.inj d;cases o<;>(simp only[Qt,c,g,i,e]at k|-;exact k)
def mr.pa{l:cy tY}{a:DK}(h:wR f x)(k:mr l x a):mr l f a:=by
 cases l with
 |nil=>exact h.aj k
 |cons o l=>
  let⟨c,d,e⟩:=k;exact⟨c,d.pa h,e⟩
def mr.EZ{l m:cy tY}{a:DK}(h:mr l f x)(k:mr m x a):mr (l++m) f a:=by
 induction l generalizing f with
 |nil=>exact k.pa h
 |cons o l e=>
  let⟨b,c,d⟩:=h;exact⟨b,c,e d⟩
def mr.pI{o:tY}{K a:DK}(h:Qt o K a):mr [o] K a:=⟨a,h,rfl,rfl,rfl⟩
def Xo(f:Ff)(c:Y):Prop:=c=8/\0<f.bd\/(c=9\/c=10\/c=11)/\qp f
structure vT(w w':Z)(db:R)(K K':DK)(full:cy tY)(v:ae):Prop where
 D:pR w w' db K K'
 d:(v=ib/\mr full K K')\/∃l q c,l<+:full/\mr l K K'/\v=eW q/\rC w' q c/\Xo K.fx c
def wT(w d:Z)(c:R)(K:DK)(a:cy tY)(e:Ending):Prop:=∃v b,e=aN v/\vT w d c K b a v
def vT.ok{w w':Z}{db:R}{K a:DK}{o:tY}(h:pR w w' db K a)(k:Qt o K a):vT w w' db K a [o] ib:=⟨h,J ⟨rfl,mr.pI k⟩⟩
def vT.A{b q:R}{l:cy tY}(h:pR a e b f x)(k:wR f x)(d:rC e q r)(c:Xo f.fx r):vT a e b f x l (eW q):=⟨h,bj ⟨[],q,r,List.nil_prefix,k,rfl,d,c⟩⟩
def Fx.A{f g:Ff}(b:Fx f g)(a:f.ok)(h:Xo g r):Xo f r:=h.imp (λq=>⟨q.1,b.p a q.2⟩)<|λq=>⟨q.1,b.t q.2⟩
def vT.t{c:DK}{o r:cy tY}(l:f.fx.ok)(h:pR a e b f x)(g:mr o f x)(k:vT e P b x c r d):vT a P b f c (o++r) d:=by
 refine⟨h.aj k.D,?_⟩;obtain⟨i,k⟩|⟨p,q,s,m,k,i,n,j⟩:=k.d;exact J ⟨i,g.EZ k⟩;exact bj ⟨o++p,q,s,iu _|>.2 m,g.EZ k,i,n,h.fx.A l j⟩
def vT.jj{c q:R}{b:DK}{l m:cy tY}(h:vT a e c f b l (eW q)):vT a e c f b (l++m) (eW q):=by
 refine⟨h.D,?_⟩;obtain⟨n,_⟩|⟨g,j,k,d,o⟩:=h.d;cases n;exact bj ⟨g,j,k,d.trans<|qI _ _,o⟩
def zfe(w a:Z)(b:R)(K:DK)(e:Ending):Prop:=∃c f,e=aN (aO c)/\pR w a b K {K with fx:=f}/\I (λk=>k=b) w a/\G (H a)=G (H w)/\(c=cz->0<K.fx.bd)
def CW(h:cJ a b f):cR bN 66 #[aJ b] a λk d=>zfe a d b f k:=by
 go_call Wt h.S h.L as k d⟨l,m,rfl,e,c,g,i,j⟩;exact⟨l,m,z,h.R9 e c i,c,g,j⟩
def zfc(w b:Z)(c:R)(K:DK)(a:af)(e:Ending):Prop:=∃f,pR w b c K {K with fx:=f}/\I (λk=>k=c) w b/\((∃F,ii K.ah a=M F/\e=aN (de #[aJ F.l,ib]))\/(ii K.ah a=dE/\∃q,e=aN (de #[ee dE,eW q])/\rC b q 10)\/(0<K.fx.bd/\∃q,e=aN (de #[ee dE,eW q])/\rC b q 8))
def tu(c:af)(h:cJ a b f)(d:Nm c):cR bN 64 #[aJ b,aw c] a λp r=>zfc a r b f c p:=by
 let⟨t,q,m,_,_⟩:=cZ rp;have j:=qZ underlying86 underlying9 q m h.l c;have:=aX h.S 0;have i:=CW h;rcases hg:ii f.ah c with _|F;(.rw[AQ hg]at j;simp only[sP]at j;(go_in);go_wp21;go_call i as p s⟨o,n,rfl,e,g,l,k⟩;clear l i;cases o;(.go_wp2;(go_ret2);exact⟨n,e.bH<|cI _ _,g.aE _,bj<|J ⟨hg,_,z,rC.lX _ _ d⟩⟩);go_wp2;(go_ret2);exact⟨n,e.bH<|cI _ _,g.aE _,bj<|bj ⟨k trivial,_,z,rC.lX _ _ d⟩⟩);rw[(eM hg).2.2]at j;simp only[ld,lk]at j;(go_in);go_wp21;go_call i as p s⟨o,n,rfl,e,g,l,k⟩;clear l i;cases o;(.go_wp2;(go_ret2);exact⟨n,e,g,J ⟨F,hg,z⟩⟩);go_wp2;(go_ret2);exact⟨n,e.bH<|cI _ _,g.aE _,bj<|bj ⟨k trivial,_,z,rC.lX _ _ d⟩⟩
def Kh{K:DK}{E:cy Mv}{c os:cy dj}(h:cJ a b K)(k:∀S,I S a e)(j:Is e P b K.nb K.sb K.mv K.fx (c.map dj.nm) (y K.l+1) (K.l.map (·.1)++[d]) w)(B:vQ e (d,E))(x:∀C,cN d=M C->G (H a)<=C)(q:∀g∈c++os,∃i∈K.ah++K.qN,g.l=i.l/\g.A=i.A/\g.bB=i.bB/\g.D=i.D)(v:c.Pairwise mF)(A:ft c<=ft K.ah)(m:∀i∈os,∀g∈c,mF g i)(n:os.Pairwise mF):pR a P b K {K with mv:=w,ah:=c,l:=K.l++[(d,E)],qN:=os}:=by
 have s:cJ e b K:=h.aA (k aC)<|λ_ _=>id;have F:∀g∈c++os,sw e g:=λg f=>by let⟨i,r,o,p,t,u⟩:=q g f;have:=s.dq r;unfold sw at*;rwa[o,p,t,u]
 refine⟨s.p j B aI v A aI m n,?_,?_,Fx.bI _⟩
 .exact(k _).aj j.aA (by
   rintro t(rfl|rfl|D)
   .exact J<|J z
   .exact J<|bj<|J z
   .exact J (bj (bj (bj (J D)))))
 refine j.j (k aC).D x<|λg f C D=>J ?_;let⟨i,r,o,p,_⟩:=q g f;exact bj aI
def Jh(a:cy dj)(n:af):ft (mJ a n)<=ft a:=by
 induction a with
 |nil=>exact aq _
 |cons f r b=>by_cases h:f.dA=n<;>simp[mJ,ft,h]at b|-<;>omega
theorem uF(a:cy dj)(f:dj):ft (pm a f)<=ft (mJ a f.dA)+y f.bB:=by
 induction a with
 |nil=>simp[pm,mJ,ft]
 |cons g r b=>by_cases h:g.dA=f.dA<;>simp[pm,mJ,ft,h]at b|-<;>omega
def sU{a:cy dj}{f:dj}(h:ii a B=M f):ft (mJ a B)+y f.bB=ft a:=by
 induction a with
 |nil=>cases h
 |cons g r b=>
  by_cases e:g.dA=B
  .simp[ii,e]at h;subst h;simp[mJ,ft,e];omega
  .simp[ii,e]at h;have:=b h;simp[mJ,ft,e]at this|-;omega
def J3{K:DK}(c:af)(h:cJ a b K)(o:gT.jn (K.ah.map dj.nm) c=dE)(r:ii K.ah c=dE)(B:y K.l<=1000000000000):∃W:Z,W=dw (dw a<|aK #[aF,ay 0] 93) (aK #[aw c,aJ<|G<|H a] 154)/\cR bN 65 #[aJ b,bX (G (H a)+1) 0 1 1] W λe t=>e=aN (de #[])/\∃u,pR a t b K u/\Qt (.cr c) K u:=by
 refine⟨_,z,?_⟩;have g:=(h.aE<|aK #[aF,ay 0] 93).aE<|aK #[aw c,aJ<|G<|H a] 154;have j:(dw a<|aK #[aF,ay 0] 93).heap[G<|H a]?=M (aK #[aF,ay 0] 93 (0,0)):=jo _ _;have f:=(Below.heap_alloc (dw a<|aK #[aF,ay 0] 93) (aK #[aw c,aJ<|G<|H a] 154) (G<|H a) ar).trans j;have s:(dw (dw a<|aK #[aF,ay 0] 93)<|aK #[aw c,aJ<|G<|H a] 154).heap[G (H a)+1]?=M (aK #[aw c,aJ<|G<|H a] 154 (0,0)):=by have:=jo (dw a<|aK #[aF,ay 0] 93)<|aK #[aw c,aJ<|G<|H a] 154;simp_all
 generalize w:(dw (dw a<|aK #[aF,ay 0] 93)<|aK #[aw c,aJ<|G<|H a] 154)=W at*;have k:∀S,I S a W:=λS=>w▸(cI S a).aE _;have m:vQ W (bX (G (H a)+1) 0 1 1,[(c,M<|G<|H a)]):=by refine⟨show Row _ _ _ _ _ from⟨z,bj ⟨G (H a)+1,0,1,z,aq _,λA C x=>?_⟩⟩,ar,λv e=>?_⟩;rw[ez,cE s];simpa[tP,AL,lk]using x;cases e;grind
 go_call GU (K.ah.map dj.nm) [(c,M<|G<|H a)] g.S g.l m.1 ar g.o B as e t⟨rfl,n,q⟩;refine⟨z,{K with mv:=n,ah:=K.ah++[dj.mk c (G<|H a) aF [] 0],l:=K.l++[(bX (G (H a)+1) 0 1 1,[(c,M<|G<|H a)])]},?_,_,_,rfl,rfl,rfl,r⟩;have i:Is W t b K.nb K.sb K.mv K.fx ((K.ah++[dj.mk c (G<|H a) aF [] 0]).map dj.nm) (y K.l+1) (K.l.map (·.1)++[bX (G (H a)+1) 0 1 1]) n:=by rw[GV]at q;simp only[OG,LY o]at q;simpa[dj.nm]using q
 refine⟨g.p i m ?_ ?_ (by simp[ft]) g.sB ?_ g.n,?_,?_,Fx.bI _⟩;intro p d;obtain d|d:=aP.1 d;exact g.ah p d;obtain rfl:p=⟨c,G<|H a,aF,[],0⟩:=dV d;exact⟨f,fy.kj _ _,by intro E x;simp at x,ar,ar,ar⟩;refine eH.2 ⟨h.fp,ar,λC x D A=>?_⟩;obtain rfl:D=⟨c,G<|H a,aF,[],0⟩:=dV A;refine⟨λe=>?_,λv _ e=>by cases e⟩;have:=az (h.ah C x).1;grind
 intro x o p d;obtain d|d:=aP.1 d;exact g.i x o p d;obtain rfl:p=⟨c,G<|H a,aF,[],0⟩:=dV d;refine⟨λe=>?_,λv e=>by cases e⟩;have:=az (h.sB x o).1;grind
 .exact(k _).aj i.aA (by
   rintro E(rfl|rfl|e)
   .exact J<|J z
   .exact J<|bj<|J z
   .exact J (bj (bj (bj (J e)))))
 (.refine i.j (k aC).D (λv e=>by cases e;grind)<|λp d v e=>?_;obtain d|d:=aP.1 d;obtain d|d:=aP.1 d;exact J<|bj aI;rotate_left;exact J<|bj aI;obtain rfl:p=⟨c,G<|H a,aF,[],0⟩:=dV d;obtain e|e:=e;(grind);cases e)
def Tc{K:DK}(c:af)(h:cJ a b K)(f:ii K.ah c=dE)(D:y K.l<=1000000000000)(l:Nm c):cR bN 24 #[aJ b,aw c] a λA E=>wT a E b K [.cr c] A:=by
 let⟨L,C,m,_,_⟩:=cZ rp;have k:=λ(d:Z)o(g:cJ d b {K with fx:=o})=>qZ underlying86 underlying9 C m g.l c;simp only[AQ f,sP]at k;have j:=CW h;have v:=ak<|λ(d:Z)o(g:cJ d b {K with fx:=o})=>J3 c g (AQ f) f D;have w:=ak k;have:=ak h.L;clear h f k;go_in
 go_wp21;go_call j as A d⟨F,o,rfl,e,r,s,i⟩;cases F
 .have:=aX e.ok.S 0;have:=w d o e.ok;let⟨W,B,n⟩:=v d o e.ok;clear r s i j;go_wp2_with(first
   |(go_at_call 65;subst B;refine sR (dV n) ?_;rintro A N⟨rfl,x,p,q⟩;have t:=ak p;have u:=ak q;clear p q))
  go_ret;exact⟨_,x,z,e.aj t,J ⟨z,mr.pa ⟨z,z,z⟩<|mr.pI<|ag u⟩⟩
 have HB:=ak<|i z;clear r s i j;go_wp2;go_ret;exact⟨_,_,z,vT.A (e.bH<|cI _ _) ⟨z,z,z⟩ (rC.lX _ _ l)<|J ⟨z,ag HB⟩⟩
def Eg{K:DK}(c:af)(h:cJ a b K)(m:ii K.ah c≠dE->qp K.fx)(s:y K.l<=1000000000000)(d:Nm c):cR bN 24 #[aJ b,aw c] a λu t=>wT a t b K [.cr c] u:=by
 rcases hg:ii K.ah c with _|F;exact Tc c h hg s d;have q:=m (by rw[hg];simp);let⟨w,r,j,_,_⟩:=cZ rp;have i:=λ(k:Z)p(d:cJ k b {K with fx:=p})=>qZ underlying86 underlying9 r j d.l c;simp only[(eM hg).2.2,ld,lk]at i;have g:=CW h;have o:=ak i;clear h hg i m;go_in
 go_wp21;go_call g as u k⟨v,p,rfl,e,l,n,f⟩;cases v;(.have:=aX e.ok.S 0;have:=o k p e.ok;clear l n f g;go_wp2;go_ret;exact⟨_,_,z,vT.A (e.bH<|cI _ _) ⟨z,z,z⟩ (rC.lX _ _ d)<|bj ⟨bj<|bj z,q⟩⟩);have HB:=ak<|f z;clear l n f g;go_wp2;go_ret;exact⟨_,_,z,vT.A (e.bH<|cI _ _) ⟨z,z,z⟩ (rC.lX _ _ d)<|J ⟨z,ag HB⟩⟩
def ZB{a:cy dj}{c:af}(b:B≠c):ii (mJ a B) c=ii a c:=by
 induction a with
 |nil=>rfl
 |cons f r d=>
  by_cases h:f.dA=B
  .have:¬f.dA=c:=aI;simp[mJ,ii,h,b]
  .rw[mJ,fM h];by_cases e:f.dA=c
   .rw[ii,fV e,ii,fV e]
   .rw[ii,fM e,ii,fM e,d]
def J2(c:af){F:dj}(h:cJ a b f)(e:ii f.ah c=M F)(p:y f.l<=1000000000000):cR bN 65 #[aJ b,bX (G<|H a) 0 1 1] (dw a<|aK #[aw c,ee dE] 154) λk n=>k=aN (de #[])/\∃l,pR a n b f l/\Qt (.rm c) f l:=by
 have j:(dw a<|aK #[aw c,ee dE] 154).heap[G<|H a]?=M (aK #[aw c,ee dE] 154 (0,0)):=jo _ _;have m:∀S,I S a (dw a<|aK #[aw c,ee dE] 154):=λS=>(cI S a);generalize dw a (aK #[aw c,ee dE] 154)=W at*;have i:cJ W b f:=h.aA (m aC)<|λ_ _=>id;have d:vQ W (bX (G<|H a) 0 1 1,[(c,dE)]):=by refine⟨show Row _ _ _ _ _ from⟨z,bj ⟨G<|H a,0,1,z,aq _,λt u o=>?_⟩⟩,ar,λs k=>?_⟩;rw[ez,cE j];simpa[tP,AL,lk]using o;cases k;grind
 go_call GU (f.ah.map dj.nm) [(c,dE)] i.S i.l d.1 ar i.o p as k n⟨rfl,r,g⟩;rw[GV]at g;simp only[OG,<-PT]at g;exact⟨z,_,Kh h m g d (λs k=>by cases k;grind) (os:=f.qN++[F]) (λc a=>⟨c,(aP.1 a).elim (λq=>DK.D<|(oG _ _).subset q)<|λq=>(aP.1 q).elim DK.A<|λq=>bY.1 q▸DK.D (eM e).2.1,z,z,z,z⟩) (h.fp.sublist<|oG _ _) (Jh _ _) (λi b c a=>(aP.1 b).elim (λq=>h.i i q c<|(oG _ _).subset a)<|λq=>bY.1 q▸(vJ h.fp e c a).zB)<|eH.2 ⟨h.n,nI _ _,λi b c a=>bY.1 a▸(h.i i b F (eM e).2.1).zB⟩,F,_,e,z,z,z⟩
def Ju{K:DK}(c:af)(h:cJ a b K)(B:ii K.ah c=dE->qp K.fx)(A:y K.l<=1000000000000)(i:Nm c):cR bN 23 #[aJ b,aw c] a λs C=>wT a C b K [.rm c] s:=by
 have x:=tu c h i;have p:=ak<|λ(F:dj)(e:ii K.ah c=M F)(l:Z)t(d:cJ l b {K with fx:=t})=>J2 c d e A;go_in
 go_wp21;go_call x as s l⟨t,e,D,⟨m,d,rfl⟩|⟨d,q,rfl,j⟩|⟨w,q,rfl,j⟩⟩
 .have k:=p m d l t e.ok;go_wp2_with(first
   |(go_at_call 65;refine sR k ?_;rintro s E⟨rfl,r,u,v⟩;have n:=ak u;have o:=ak v))
  go_ret;exact⟨_,r,z,e.aj n,J ⟨z,mr.pa ⟨z,z,z⟩<|mr.pI<|ag o⟩⟩
 (.let⟨f,g,HB⟩:=eU e j<|B d;go_wp2;go_ret;exact⟨_,_,z,vT.A f ⟨z,z,z⟩ (ag g)<|bj ⟨bj<|J z,ag HB⟩⟩);let⟨f,g,HB⟩:=eU e j w;go_wp2;go_ret;exact⟨_,_,z,vT.A f ⟨z,z,z⟩ (ag g)<|J ⟨z,ag HB⟩⟩
def J1(d c:af){F:dj}(h:cJ a b f)(j:ii f.ah d=M F)(k:d≠c)(A:y f.l<=1000000000000):cR bN 65 #[aJ b,bX (G<|H a) 0 2 2] (dw a<|aK #[aw c,aJ F.l,aw d,ee dE] 154) λn w=>n=aN (de #[])/\∃s,pR a w b f s/\Qt (.rn d c) f s:=by
 have r:(dw a<|aK #[aw c,aJ F.l,aw d,ee dE] 154).heap[G<|H a]?=M (aK #[aw c,aJ F.l,aw d,ee dE] 154 (0,0)):=jo _ _;have v:∀S,I S a (dw a<|aK #[aw c,aJ F.l,aw d,ee dE] 154):=λS=>(cI S a);generalize dw a (aK #[aw c,aJ F.l,aw d,ee dE] 154)=W at*;have p:cJ W b f:=h.aA (v aC)<|λ_ _=>id;have l:vQ W (bX (G<|H a) 0 2 2,[(c,M F.l),(d,dE)]):=by refine⟨show Row _ _ _ _ _ from⟨z,bj ⟨G<|H a,0,2,z,aq _,λq t g=>?_⟩⟩,ar,λC n=>?_⟩;rw[ez,cE r];simpa[tP,AL,lk]using g;cases n;grind
 go_call GU (f.ah.map dj.nm) [(c,M F.l),(d,dE)] p.S p.l l.1 ar p.o A as n w⟨rfl,B,u⟩;have x:qP (f.ah.map dj.nm) [(c,M F.l),(d,dE)]=(pm (mJ f.ah d) {F with dA:=c}).map dj.nm:=by rw[<-WF (f:={F with dA:=c}) (λn=>k n.symm),PT,Ol];rfl
 rw[x]at u;refine⟨z,_,Kh h v u l (os:=f.qN++(ii f.ah c).toList) (λC n=>by cases n;grind) (λm e=>?_) ?_ ?_ (λo i m e=>?_) ?_,F,_,j,z,z,z⟩;obtain e|e:=aP.1 e;(obtain rfl|e:=xH e;exact⟨F,DK.D (eM j).2.1,z,z,z,z⟩;grind[DK.D,oG]);obtain e|e:=aP.1 e;(grind);exact⟨m,DK.D (eM<|Option.mem_toList.1 e).2.1,z,z,z,z⟩;refine GF ((h.fp.sublist<|oG _ _).sublist<|oG _ _)<|λo g=>?_;have:=vJ h.fp j o<|(oG _ _).subset g;exact this;have:=uF (mJ f.ah d) {F with dA:=c};have:=Jh (mJ f.ah d) c;have:=sU j;grind
 have q:=(eM j).2.1;have g:m={F with dA:=c}\/m∈mJ (mJ f.ah d) c:=xH e;obtain i|i:=aP.1 i;obtain rfl|g:=g;exact h.i o i F q;exact h.i o i m<|(oG _ _).subset<|(oG _ _).subset g;(have t:ii (mJ f.ah d) c=M o:=by rw[ZB k];grind);obtain rfl|g:=g;exact vJ h.fp j o (eM t).2.1;exact(vJ (h.fp.sublist<|oG _ _) t m g).zB;refine eH.2 ⟨h.n,?_,λo i m e=>(h.i o i m (eM<|Option.mem_toList.1 e).2.1).zB⟩;cases ii f.ah c<;>simp
def Vl{K:DK}(c d:af)(h:cJ a b K)(D:ii K.ah c=dE->qp K.fx)(f:c≠d)(C:y K.l<=1000000000000)(k:Nm c):cR bN 261 #[aJ b,aw c,aw d] a λu E=>wT a E b K [.rn c d] u:=by
 have B:=tu c h k;have s:=ak<|λ(F:dj)(g:ii K.ah c=M F)(n:Z)v(e:cJ n b {K with fx:=v})=>J1 c d e g f C;have:(!c.toList==d.toList)=cz:=by simp[BH f]
 go_in
 go_wp21;go_call B as u n⟨v,g,F,⟨o,e,rfl⟩|⟨e,q,rfl,l⟩|⟨A,q,rfl,l⟩⟩
 .have m:=s o e n v g.ok;go_wp2_with(first
   |(go_at_call 65;refine sR m ?_;rintro u L⟨rfl,t,w,x⟩;have p:=ak w;have r:=ak x))
  go_ret;exact⟨_,t,z,g.aj p,J ⟨z,mr.pa ⟨z,z,z⟩<|mr.pI<|ag r⟩⟩
 (.let⟨i,j,HB⟩:=eU g l<|D e;go_wp2;go_ret;exact⟨_,_,z,vT.A i ⟨z,z,z⟩ (ag j)<|bj ⟨bj<|J z,ag HB⟩⟩);let⟨i,j,HB⟩:=eU g l A;go_wp2;go_ret;exact⟨_,_,z,vT.A i ⟨z,z,z⟩ (ag j)<|J ⟨z,ag HB⟩⟩
section
open ChangeMaps (setBlock)
def qf(w:Z)(h r:R)(m left:gT):Prop:=∃e d b seen g,w.heap[h]?=M (.map e d)/\Fits e.toList m/\MapKept.Stamped e d/\w.heap[r]?=M (.mapIter (M h) b seen g)/\(∀x∈e.toList,x.born<b)/\b<=g/\b<=d/\Fits (leftOf e seen).toList left
theorem qf.ne{w:Z}{d r:R}{m left:gT}(h:qf w d r m left):r≠d:=by
 let⟨e,b,_,_,_,g,_,_,i,_⟩:=h;grind
theorem qf.lt{w:Z}{b r:R}{m left:gT}(h:qf w b r m left):r<G (H w):=by
 let⟨g,d,_,_,_,_,_,_,e,_⟩:=h;exact az e
theorem qf.qR{w e:Z}{g r:R}{t left:gT}(h:qf w g r t left)(q:e.heap[g]?=w.heap[g]?)(s:e.heap[r]?=w.heap[r]?):qf e g r t left:=by
 let⟨j,b,d,seen,i,k,l,m,n,p⟩:=h;exact⟨j,b,d,seen,i,q.trans k,l,m,s.trans n,p⟩
theorem Fits.KQ{e:cy MapEntry}{m:gT}{d b:cy MapEntry}{g:MapEntry}(h:Fits e m)(l:e=d++g::b):∃a p f,m=a++p::f/\Fits d a/\g.key=aw p.1/\g.val=p.2/\Fits b f:=by
 subst l;unfold Fits at h;rw[bz,bO]at h;obtain⟨a,q,rfl,i,j⟩:=jy.1 h.symm;obtain⟨p,f,rfl,n,k⟩:=pu.1 j;exact⟨a,p,f,z,i.symm,aI,aI,k.symm⟩
theorem Fits.jN{b d:cy MapEntry}{m n:gT}(h:Fits b m)(k:Fits d n):Fits (b++d) (m++n):=by
 unfold Fits at*;rw[bz,bz,h,k]
theorem JN{d:Array MapEntry}{seen:Array R}{f e:cy MapEntry}{g:MapEntry}(l:(d.toList.map (·.born)).Nodup)(h:(leftOf d seen).toList=f++g::e):(leftOf d<|seen.push g.born).toList=f++e:=by
 have i:(leftOf d<|seen.push g.born).toList=(leftOf d seen).toList.filter (λx=>!(x.born==g.born)):=by simp only[leftOf,Array.toList_filter,List.filter_filter];grind
 have b:((leftOf d seen).toList.map (·.born)).Nodup:=by(have:(leftOf d seen).toList.Sublist d.toList:=by simp[leftOf]);grind
 rw[i,h];rw[h]at b;simp only[bz,bO]at b;let⟨_,j,k⟩:=rM.1 b;grind[nodup_cons,filter_cons_of_neg,filter_eq_self]
theorem Rv{P:Program}{w:Z}{mt k i g:R}{n:gT}(m:P.underlying mt=M (.map k i))(h:iO w g n):∃e,(Instr.range mt<|.map<|M g).run P w=.ok (aJ<|G<|H w) e/\qf e g (G<|H w) n n/\w.grownBy e dE/\G (H e)=G (H w)+1:=by
 let⟨d,b,f,l,j⟩:=h;refine⟨_,run_range_map w mt k i g d b m f,⟨d,b,b,#[],b,((qH w _).2 g<|az f).trans f,l,j,(qH w _).1,j.1,aq _,aq _,?_⟩,eR w _ dE,ar⟩;have:leftOf d #[]=d:=by simp[leftOf]
 rwa[this]
theorem Vb{P:Program}{w:Z}{v r:R}{aa left:gT}(h:qf w v r aa left)(N:TypeId):(left=[]/\(Instr.next (aJ r) bD N).run P w=.ok (de #[aO bD]) w)\/∃n L f p,left=n++L::f/\(Instr.next (aJ r) bD N).run P w=.ok (de #[aO cz,aw L.1,L.2]) p/\qf p v r aa (n++f)/\w.grownBy p (M r)/\G (H p)=G (H w)/\(Instr.entry<|aJ r).run P p=.ok (de #[aw L.1,L.2]) p:=by
 have E:=h.ne;let⟨l,b,d,seen,O,S,hf,F,T,k,K,t,D⟩:=h;obtain⟨h0,e⟩|⟨B,he,A,g,e⟩:=run_next_at (P:=P) w N r v d O seen l b T S k K;refine J ⟨?_,e⟩;have:(leftOf l seen).toList=[]:=aI;rw[this]at D;simpa[Fits]using D;let⟨n,f,u⟩:=uZ he;obtain⟨a,L,ab,rfl,W,x,V,hc⟩:=D.KQ u;(have i:A.heap=w.heap:=by obtain rfl|rfl:=g<;>rfl);have s:A.heap[r]?=M (.mapIter (M v) d seen O):=i▸T;have j:(setBlock A r<|.mapIter (M v) d (seen.push B.born) b).heap[r]?=M (.mapIter (M v) d (seen.push B.born) b):=(ia s).1;have m:∀k,k≠r->(setBlock A r<|.mapIter (M v) d (seen.push B.born) b).heap[k]?=w.heap[k]?:=λk x=>((ia s).2 k x).trans (by rw[i]);have q:=(m v<|λB=>E B.symm).trans S;(have C:B∈l.toList:=by(have:(leftOf l seen).toList.Sublist l.toList:=by simp[leftOf]);grind);refine bj ⟨a,L,ab,_,z,x▸V▸e,⟨l,b,d,_,b,q,hf,F,j,k,t,t,JN F.2.1 u▸W.jN hc⟩,⟨?_,?_,?_,?_,aI⟩,?_,?_⟩;obtain rfl|rfl:=g<;>rfl;obtain rfl|rfl:=g<;>rfl;obtain rfl|rfl:=g<;>rfl;simp[setBlock,i];simp[setBlock,i];rw[<-x,<-V];exact run_entry_at _ r v d seen l b B j q C F.2.1
section
variable{P:Program}(w:Z){c:Array Oper}{rest:cy Oper}{o:Oper}{a:Act}{Q:Exit->Act->Z->Prop}
theorem oJ(l:o.guard=dE)(i:Operand)(t:TypeId)(g:o.op=Op.range t i)(x v:TypeId)(n:P.underlying t=M (.map x v))(j:R)(p:gT)(m:a.eval i=.map (M j))(h:iO w j p)(k:∀b,qf b j (G<|H w) p p->w.grownBy b dE->G (H b)=G (H w)+1->wpList P c Q rest (a.put o.dst<|aJ<|G<|H w) b):wpList P c Q (o::rest) a w:=by
 refine ly l λu e=>?_;let⟨b,d,q,r,s⟩:=Rv n h;unfold Oper.wp;simp[execOp,g,m,d,Result.andThen];exact e _ _<|k b q r s
theorem oq(q:o.guard=dE)(m:Operand)(k:o.op=Op.next m bD)(s r:R)(t left:gT)(QG:a.eval m=aJ r)(h:qf w s r t left)(e:left=[]->wpList P c Q rest (a.put o.dst<|de #[aO bD]) w)(l:∀g p d i,left=g++p::d->qf i s r t (g++d)->w.grownBy i (M r)->G (H i)=G (H w)->(Instr.entry<|aJ r).run P i=.ok (de #[aw p.1,p.2]) i->wpList P c Q rest (a.put o.dst<|de #[aO cz,aw p.1,p.2]) i):wpList P c Q (o::rest) a w:=by
 refine ly q λu j=>?_;unfold Oper.wp;obtain⟨n,b⟩|⟨g,p,d,i,C,b,v,x,A,B⟩:=Vb (P:=P) h o.type;simp[execOp,k,QG,b,Result.andThen];exact j _ _<|e n;simp[execOp,k,QG,b,Result.andThen];exact j _ _ aI
end
end
def cJ.U6{K:DK}{D:gT}(h:cJ a b K)(n:I (λk=>k=K.sb) a e)(q:iO e K.sb D):pR a (cP e (X b 2) aF) b K {K with mv:=aF,l:=[],sm:=D}:=by
 have i:b≠K.sb:=h.D.pZ h.S;have p:lU e b K.nb K.sb K.mv K.fx:=(n.A b (az h.S) i).trans h.S;have g:I (λk=>k=b\/k=K.sb) a (cP e (X b 2) aF):=(n.aT<|λx c=>J<|bj c).aL b 2 _<|J<|J z;have f:∀j∈K.ah++K.qN,sw (cP e (X b 2) aF) j:=by intro j d;have hF:=h.dq d;refine hF.aA g ?_ ?_;rintro(c|c);exact lj hF.1 h.S cg c;exact h.D.pZ hF.1 c;intro k c;let⟨o,m⟩:=fZ hF.2.1 c;rintro(c|c);exact lj m h.S cg c;exact h.D.pZ m c
 refine⟨⟨?_,?_,?_,h.ne,ct _ _ _ _,ar,λj d=>f j<|DK.D d,h.fp,h.L,h.d,h.v,λj d=>f j<|DK.A d,h.i,h.n⟩,?_,?_,Fx.bI _⟩;unfold lU;rw[aY p];rfl;refine h.l.aA g ?_;rintro(c|c);exact h.l.pZ h.S c.symm;exact h.ne c;exact q.qR (eG e b 2 _) aI
 .exact g.aT (by
   rintro x(rfl|rfl)
   .exact J<|J z
   .exact J (bj (bj (J z))))
 rintro k(c|c|c|c|⟨x,m,_⟩|c);exact J<|J c;exact J<|bj<|J c;exact J<|bj<|bj<|J c;cases c;cases m;exact J<|bj<|bj<|bj<|bj<|bj c
def Gc(B:cJ a b f)(hn:y f.l<=1000000000000):cR bN 112 #[aJ b] a λu q=>wT a q b f [.sd] u:=by
 have T:=CW B;go_in
 go_wp21;go_call T as u P⟨av,ax,rfl,o,N,hz,Q⟩;cases av;(case true=>have HB:=ak<|Q z;clear N hz Q T;go_wp2;go_ret;exact⟨_,_,z,vT.A (o.bH<|cI _ _) ⟨z,z,z⟩ (rC.lX _ _ (by unfold Nm;decide))<|J ⟨z,ag HB⟩⟩);have h:=o.ok;have v:=ak o;have E:b≠f.sb:=h.D.pZ h.S;have m:∀wr,I (λr=>r=f.sb) P wr->bA wr (X b 1)=M (.map<|M f.sb)/\bA wr (X b 2)=M f.mv/\iH wr (X b 2)=bD:=by intro wr g;have o:lU wr b f.nb f.sb f.mv ax:=(g.A b (az h.S) E).trans h.S;exact⟨by rw[cE o];rfl,by rw[cE o];rfl,cV o⟩
 have s:=ak m;have ac:=(m P<|I.bI _ _).2.1;have i:=ak<|λ(q:Z)(D:gT)(g:I (λr=>r=f.sb) P q)(j:iO q f.sb D)=>(ag v).aj<|h.U6 g j;have p:∀(wr:Z)(n:R)(c:n<y f.l)(D:gT),I (λr=>r=f.sb) P wr->iO wr f.sb D->cR bN 53 #[.map<|M f.sb,f.l[n].1] wr λu q=>u=aN (de #[])/\iO q f.sb (qP D f.l[n].2)/\wr.grownBy q (M f.sb):=by intro wr n c D g j;have l:=(h.bZ f.l[n]<|aB c).aA g (λr u x=>by let⟨A,C,w⟩:=(h.bZ f.l[n]<|aB c).2.2 r u;exact h.D.pZ w x);exact JJ D f.l[n].2 j l.1<|bP l.2.1
 let⟨k,d,e,t⟩:=jr p h.o h.D<|λr=>h.Nu (k:=r);simp only[Hid]at d e t i;generalize al:f.mv=mv at*;obtain⟨rfl,B⟩|⟨ap,aa,A,rfl,_,hg,ao,_,m,O⟩:=d.2;(.have l:f.l=[]:=bG B;go_wp2;(go_loopw [15] (λV wr=>V=ay 0/\wr=P) (λ_ _=>0));(grind);obtain⟨rfl,rfl⟩:=hrel;have F:=(s wr<|I.bI _ _).2.2;go_wp2;go_ret;exact⟨_,_,z,vT.ok (i wr f.sm (I.bI _ _) e) ⟨z,by rw[l];rfl,z⟩⟩)
 .have l:∀n(c:n<y f.l)wr,I (λr=>r=f.sb) P wr->bA wr (X ap n)=M f.l[n].1:=by
   intro n c wr g;refine g.u ?_ (t ap z).1<|az hg;have:=World.ownsRow.cellAt d n U;rw[this];simp[c]
  go_wp2;go_loopw [15] (λV wr=>∃n:R,n<=y f.l/\V=ay n/\I (λr=>r=f.sb) P wr/\iO wr f.sb (((f.l.take n).map (·.2)).foldl qP f.sm)) (λV _=>y f.l-(intOf V).toNat)
  .exact⟨0,bQ _,z,I.bI _ _,e⟩
  .obtain⟨n,an,rfl,g,j⟩:=hrel;let⟨D,C⟩:∃D,((f.l.take n).map (·.2)).foldl qP f.sm=D:=⟨_,z⟩;rw[C]at j;let⟨ab,S,F⟩:=s wr g;have W:=ak j;by_cases c:n<y f.l
   .have ad:=l n c wr g;have HS:=ak<|k wr n c D g j;go_wp2_with(first
     |(go_at_call 53;refine HS.mono ?_;rintro u w2⟨rfl,L,K⟩;have x:=ak L;have w:=ak K))
    go_roundw
    .exact⟨n+1,U,dM,g.aj (gH w)<|λb u=>J u,by rw[aG c,bz,jR,C];exact x⟩
    .simp[intOf];omega
   .clear j;have w:n=y f.l:=U;subst w;go_wp2;go_ret;exact⟨_,_,z,vT.ok (i wr D g W) ⟨z,by rw[<-C,cQ],rfl⟩⟩
def Yp{m:gT}(h:gT.jn m B=M d):gT.gK m B d=m:=by
 induction m with
 |nil=>cases h
 |cons p r a=>
  by_cases e:p.1=B
  .simp[gT.jn,e]at h;simp[gT.gK,e,<-h];rw[<-e]
  .simp[gT.jn,e]at h;simp[gT.gK,e,a h]
def cJ.t{K:DK}{F F':dj}(h:cJ a b K)(N:ii K.ah F'.dA=M F)(C:F'.l=F.l)(r:I (λk=>k=F.l\/cN F.A=M k) a e)(hF:sw e F')(E:∀k,cN F'.A=M k->cN F.A=M k\/G (H a)<=k)(S:ft (pm K.ah F')<=4611686018427387904):pR a e b K {K with ah:=pm K.ah F'}:=by
 let⟨_,d,A⟩:=eM N;have f:=h.ah F d;have u:∀{k O:R}{q:Array ae}{D:R×R},a.heap[k]?=M (aK q O D)->O≠93->O≠5->¬(k=F.l\/cN F.A=M k):=by rintro k O q D Q P T(c|c);exact lj Q f.1 P c;let⟨i,l⟩:=fZ f.2.1 c;grind
 have g:∀{O:R}{P:gT},iO a O P->¬(O=F.l\/cN F.A=M O):=by rintro O P q(c|c);exact q.pZ f.1 c.symm;let⟨i,l⟩:=fZ f.2.1 c;exact q.pZ l z
 have j:∀t∈mJ K.ah F'.dA,t∈K.ah:=λt n=>(oG _ _).subset n;have p:=vJ h.fp N;refine⟨⟨?_,?_,h.D.aA r<|g h.D,h.ne,?_,?_,?_,?_,h.L,S,h.v,?_,?_,h.n⟩,?_,?_,Fx.bI _⟩;exact(r.A b (az h.S)<|u h.S cg cg).trans h.S;show iO e K.nb ((pm K.ah F').map dj.nm);rw[Ol,C,Yp A];exact h.l.aA r<|g h.l;refine r.aZ h.o<|λk c=>?_;let⟨i,l⟩:=fZ h.o c;grind
 intro B o;refine(h.bZ B o).aA r<|λk c=>?_;let⟨i,D,l⟩:=(h.bZ B o).2.2 k c;grind
 intro B o;obtain rfl|o:=xH o;exact hF;have s:=h.ah B<|j B o;refine s.aA r ?_ ?_;rintro(c|c);exact(p B o).1 c.symm;let⟨i,l⟩:=fZ f.2.1 c;exact lj s.1 l cg z;intro k x;rintro(c|c);let⟨i,l⟩:=fZ s.2.1 x;exact lj l f.1 cg c;exact(p B o).2 k c x;refine GF (h.fp.sublist<|oG _ _)<|λt n=>⟨C▸(p t n).1,λk c v=>?_⟩;obtain w|w:=E k c;exact(p t n).2 k w v;have:=(aS (h.ah t<|j t n).2.1 k v).2;omega;intro B o;have s:=h.sB B o;have q:=h.i B o F d;refine s.aA r ?_ ?_;rintro(c|c);exact q.1 c.symm;let⟨i,l⟩:=fZ f.2.1 c;exact lj s.1 l cg z;intro k x;rintro(c|c);let⟨i,l⟩:=fZ s.2.1 x;exact lj l f.1 cg c;exact q.2 k c x;intro t q L m;obtain rfl|m:=xH m;refine⟨C▸(h.i t q F d).1,λk c v=>?_⟩;obtain w|w:=E k c;exact(h.i t q F d).2 k w v;have:=(aS (h.sB t q).2.1 k v).2;omega;exact h.i t q L<|j L m
 .exact r.aT (by
   rintro B(rfl|c)
   .exact J<|bj<|bj<|bj<|bj<|bj ⟨F,DK.D d,J z⟩
   .exact J (bj (bj (bj (bj (bj ⟨F,DK.D d,bj c⟩))))))
 (.rintro k(c|c|c|c|c|⟨L,m,c⟩);exact J<|J c;exact J<|bj<|J c;exact J<|bj<|bj<|J c;exact J<|bj<|bj<|bj<|J c;exact J<|bj<|bj<|bj<|bj<|J c;(.obtain m|m:=aP.1 m;rotate_left;exact J<|bj<|bj<|bj<|bj<|bj ⟨L,DK.A m,c⟩;obtain rfl|m:=xH m;obtain c|c:=c;exact J<|bj<|bj<|bj<|bj<|bj ⟨F,DK.D d,J<|C.symm.trans c⟩;obtain c|c:=E k c;exact J<|bj<|bj<|bj<|bj<|bj ⟨F,DK.D d,bj c⟩;exact bj c;exact J<|bj<|bj<|bj<|bj<|bj ⟨L,DK.D<|j L m,c⟩))
def fy.fR(h:fy a b d m):∃x c,d=am x (y m) c:=aM h
def cJ.zdr{K:DK}{F:dj}(h:cJ a b K)(e:ii K.ah B=M F):pR a (cP a (X F.l 1)<|ay<|y F.bB) b K {K with ah:=pm K.ah {F with D:=y F.bB}}:=by
 let⟨d,c,g⟩:=eM e;have hF:=h.ah F c;have f:cN F.A≠M F.l:=ud hF.2.1 hF.1 cg;refine h.t (F:=F) (F':={F with D:=y F.bB}) (by rw[show({F with D:=y F.bB}:dj).dA=F.dA from rfl,d];exact e) z ((I.bI _ a).aL F.l 1 _<|J<|J z) ⟨?_,?_,hF.2.2.1,ar,ar,hF.2.2.2.2.2⟩ (λl k=>J k) ?_;show(cP a (X F.l 1)<|ay<|y F.bB).heap[F.l]?=_;rw[aY hF.1];rfl;exact qG hF.2.1 (eG a F.l 1 _)<|bj f;have i:=uF K.ah {F with D:=y F.bB};have j:=sU e;rw[<-d]at j;have:=h.d;simp only at i;omega
def TA(c:af)(h:cJ a b f)(t:ii f.ah c=dE->qp f.fx)(l:Nm c):cR bN 111 #[aJ b,aw c] a λw u=>wT a u b f [.sy c] w:=by
 have r:=tu c h l;go_in
 go_wp21;go_call r as w v⟨B,e,x,⟨g,d,rfl⟩|⟨d,q,rfl,m⟩|⟨p,q,rfl,m⟩⟩;(.have o:=ak d;have hF:=e.ok.ah g (eM d).2.1;have:y g.bB<=140737488351232:=bP hF.2.2.2.2.2;have k:=aX hF.1 0;have:=aX hF.1 1;have:iH v (X g.l 1)=bD:=cV hF.1;let⟨C,A,s⟩:=fy.fR hF.2.1;rw[s]at k;have n:=ak<|e.ok.zdr d;go_wp2;go_ret;exact⟨_,_,z,e.aj n,J ⟨z,mr.pa ⟨z,z,z⟩<|mr.pI ⟨g,o,z,z,z⟩⟩⟩);(.let⟨i,j,HB⟩:=eU e m<|t d;go_wp2;go_ret;exact⟨_,_,z,vT.A i ⟨z,z,z⟩ (ag j)<|bj ⟨bj<|J z,ag HB⟩⟩);let⟨i,j,HB⟩:=eU e m p;go_wp2;go_ret;exact⟨_,_,z,vT.A i ⟨z,z,z⟩ (ag j)<|J ⟨z,ag HB⟩⟩
def zer(w b:Z)(c:R)(K:DK)(a:af)(e:Ending):Prop:=∃f,pR w b c K {K with fx:=f}/\((∃F,ii K.ah a=M F/\e=aN (de #[ay<|y F.bB,ib]))\/(ii K.ah a=dE/\∃q,e=aN (de #[ay 0,eW q])/\rC b q 10)\/(0<K.fx.bd/\∃q,e=aN (de #[ay 0,eW q])/\rC b q 8))
def TG(c:af)(h:cJ a b f)(k:Nm c):cR bN 120 #[aJ b,aw c] a λs r=>zer a r b f c s:=by
 have o:=tu c h k;have:=h.d;have:=h.v;go_in
 go_wp21;go_call o as s u⟨m,e,t,⟨F,d,rfl⟩|⟨d,q,rfl,l⟩|⟨n,q,rfl,l⟩⟩;(.have hF:=e.ok.ah F (eM d).2.1;have j:=aX hF.1 0;let⟨x,v,p⟩:=fy.fR hF.2.1;rw[p]at j;have:y F.bB<=140737488351232:=bP hF.2.2.2.2.2;go_wp2;(go_ret2);exact⟨m,e,J ⟨F,d,z⟩⟩);(.let⟨g,i,j⟩:=eU e l d;go_wp2;(go_ret2);exact⟨m,g,bj<|J ⟨j,q,z,i⟩⟩);let⟨g,i,HB⟩:=eU e l n;go_wp2;(go_ret2);exact⟨m,g,bj<|bj ⟨HB,q,z,i⟩⟩
def qf.oN{m left:gT}(h:qf a b c m left):a.rangeLeft b c=y left:=by
 let⟨l,d,e,seen,k,g,_,_,i,_,_,_,j⟩:=h;simp only[World.rangeLeft,g,i];have:=cD y j;grind
def zN{L:cy dj}{b a:gT}{p:af×ae}(h:L.map dj.nm=b++p::a):∃A f C,L=A++f::C/\b=A.map dj.nm/\p=f.nm/\a=C.map dj.nm:=by
 obtain⟨A,D,rfl,c,d⟩:=jy.1 h;grind[map_eq_cons_iff]
def Kq{db:R}{K:DK}(c:af)(bi e x:R)(d:eD){w0:Z}(h0:cJ w0 db K)(hx:ii K.ah c=dE->qp K.fx)(bb:qp K.fx\/ft K.ah+y d<=1000000000)(bm:y d<=1099511627776)(aU:ki d)(ap:∀bg V,(d.map<|Value.int .u8)[bg]?=M V->bA w0 (X bi<|e+bg)=M V)(o:bi<G (H w0))(ao:bi≠db)(m:Nm c):cR bN 25 #[aJ db,aw c,bX bi e (y d) x] w0 λaa w'=>wT w0 w' db K [.ap c d] aa:=by
 obtain⟨i0,hi,bc,bd,bf⟩:=cZ pL;have hf:=tu c h0 m;have:=h0.v;go_in
 go_wp2_with fail
 apply hf.mono;rintro aa W⟨n,vS,P,⟨F,t,rfl⟩|⟨h1,q,rfl,hq⟩|⟨hb,q,rfl,hq⟩⟩;rotate_left;(.obtain⟨p,HQ,HB⟩:=eU vS hq<|hx h1;go_wp2;go_ret;exact⟨_,_,z,vT.A p ⟨z,z,z⟩ (ag HQ)<|bj ⟨bj<|J z,ag HB⟩⟩);(.obtain⟨p,HQ,HB⟩:=eU vS hq hb;go_wp2;go_ret;exact⟨_,_,z,vT.A p ⟨z,z,z⟩ (ag HQ)<|J ⟨z,ag HB⟩⟩);obtain⟨m,E,bl⟩:=eM t;subst m;have h:=vS.ok;have ax:n.d=K.fx.d:=vS.fx.d;have:ft K.ah<=4611686018427387904:=h.d;have:=sU t;have:=aX h.S 0;obtain⟨p,w,HB⟩:=eU (λ(wr:Z)(k:I aC W wr)=>h.aA k<|λ_ _=>id) h.l<|λ(wr:Z)(k:I aC W wr)bg V(hj:(d.map<|Value.int .u8)[bg]?=M V)=>k.u (P.u (ap bg V hj) ao o) id<|au o P.D;have:=ak t
 go_wp2_with(first
  |(at_range;refine oJ _ z _ 86 z 9 90 underlying86 K.nb _ z w ?_;intro w0 D aD bq;have al:=ak D;have v:=ak aD))
 go_frame
 go_loopw [9] (λV wr=>∃(bh:cy dj)(a:R),(∀n∈bh,n∈K.ah)/\V=ay a/\a+ft bh=ft K.ah/\qf wr K.nb (G<|H W) (K.ah.map dj.nm) (bh.map dj.nm)/\I aC W wr) (λ_ wr=>wr.rangeLeft K.nb<|G<|H W)
 case atStart=>exact⟨K.ah,0,λ_ h=>h,rfl,ar,al,I.eF v ar⟩
 case round=>
  obtain⟨bh,a,hL,rfl,O,C,k⟩:=hrel;go_wp2_with(first
   |(at_next;refine oq _ z _ z K.nb (G (H W)) _ _ z C ?_ ?_))
  .intro aV;obtain rfl:bh=[]:=dV aV;have:a=ft K.ah:=by simpa[ft]using O
   have l:=p wr k;have hF:=l.ah F E;have av:=aX l.S 3;have B:=aX hF.1 0;simp only at av;have:IntKind.i64.wrap (n.d-(a:Y))=n.d-a:=by rw[bR];omega
   by_cases bp:(ft K.ah:Y)+y d<=n.d
   .have ba:cN F.A≠M F.l:=ud hF.2.1 hF.1 cg;have f:∀i j,fD j 0 5 1 i (y F.bB+y d) (F.bB.map (Value.int .u8)++d.map (Value.int .u8))->fm wr j F.A i->bA j (X F.l 0)=M F.A/\iH j (X F.l 0)=bD/\∃a,pR W (cP j (X F.l 0) i) db {K with fx:=n} a/\Qt (.ap F.dA d) {K with fx:=n} a:=by
     intro i j N s;have b:j.heap[F.l]?=M (aK #[F.A,ay F.D] 93 (0,0)):=(s.dF.block F.l (az hF.1)<|λaa=>ba aa.symm).trans hF.1;have L:cN i≠M F.l:=ud N b cg;refine⟨by rw[cE b];rfl,cV b,_,(p W<|I.bI _ _).t (F:=F) (F':={F with A:=i,bB:=F.bB++d}) t rfl ?_ ⟨?_,?_,hF.2.2.1.jN aU,hF.2.2.2.1,by have:=hF.2.2.2.2.1;simp;omega,by simp;omega⟩ ?_ ?_,F,i,t,z,z,z⟩
     .exact((k.aT (T:=λab=>ab=F.l\/cN F.A=M ab) cY).aj (I.eF (S:=λab=>cN F.A=M ab) s.dF<|λab aa=>J aa) aI).aL F.l 0 i<|J<|J z
     .show(cP j (X F.l 0) i).heap[F.l]?=_;rw[aY b];rfl
     .exact fy.of (qG N (eG j F.l 0 i)<|bj L) ar ar
     .intro ab aa;obtain e'|⟨an,e',bo⟩:=s.f
      .grind
      .have:an=ab:=by
        have e2:cN i=M ab:=aa;rw[e']at e2;simpa using e2
       exact bj<|bP k.D
     grind[uF,length_append]
    have u:=ak f;have HO:=ak hF.2.1;obtain⟨bs,br,r⟩:=fy.fR hF.2.1;have bk:¬((n.d-a:Y)<y d):=U;generalize F.A=fd at*;subst r;have ac:=ak<|HB wr k;go_wp2_with(first
     |(at_builtin;go_loud(refine cq _ z (.tmp 54) (.tmp 55) 31 z 0 5 i0 (.int .u8 0) 1 1 underlying31 hi bc bd bf z cg _ (y F.bB) (F.bB.map (Value.int .u8)) z HO (X bi e) (y d) x (d.map (Value.int .u8)) z ar (λbg V hj=>by rw[dS];exact ac bg V hj) (by intro V hu;simp only[cC]at hu;obtain⟨g9,_,rfl⟩:=hu;rfl) U U (bQ _) ?_;intro v2 j g Q;obtain⟨bn,ax,f⟩:=u v2 j g Q;obtain⟨x2,c2,rfl⟩:=aM g;have ad:=ak f)))
    go_ret;obtain⟨K2,h2,h3⟩:=ag ad;exact⟨_,K2,z,vS.aj h2,J ⟨z,mr.pa ⟨z,z,z⟩<|mr.pI h3⟩⟩
   .have:(n.d-a:Y)<y d:=U;have b:=ak<|show qp K.fx from bb.elim id<|λq=>bj U;go_wp2;go_ret;exact⟨_,_,z,vT.A (vS.bH<|k.aE _) ⟨z,z,z⟩ (rC.lX _ _ m)<|bj ⟨J z,ag b⟩⟩
  .intro ba pk pv N Q u f s aV av;obtain⟨ab,n,ac,rfl,rfl,L,rfl⟩:=zN u;simp only[dj.nm,lk,js]at L;obtain⟨rfl,rfl⟩:=L;have j:n∈K.ah:=hL n ar;have g:I aC W Q:=k.aj (gH s) aI;have l:=p Q g;have hF:=l.ah n j;have B:=aX hF.1 0;let⟨bs,br,r⟩:=fy.fR hF.2.1;rw[r]at B;have:ft (ab++n::ac)=ft (ab++ac)+y n.bB:=by simp[ft];omega
   let⟨ad,b,i⟩:=eU (show(λan=>an∈K.ah)=(λan=>an∈K.ah)from rfl) f g;go_wp2;go_roundw
   .exact⟨ab++ac,a+y n.bB,λan t=>hL an aI,dM,U,dV<|ag b,i⟩
   .rw[(ag b).oN,C.oN];simp
def Bytes.bU(h:Bytes a (bX b c (y m) k) m):∀j u,(m.map<|Value.int .u8)[j]?=M u->bA a (X b<|c+j)=M u:=by
 obtain⟨f,_⟩|⟨g,e,d,f,_,i⟩:=h;cases f;grind
def Ei{v:ae}{bs:eD}{w:Z}(h:Bytes w v bs)(P:y bs<=1099511627776)(g:∀q,cN v=M q->q<G (H w)):cR bN 27 #[v] w λN t=>∃s,N=aN s/\fy t (G<|H w) s bs/\gC (G<|H w) w t:=by
 let⟨K,D,m,o,p⟩:=cZ pL;obtain⟨rfl,rfl⟩|⟨x,e,k,rfl,F⟩:=h.fR;(.have C:∀w:Z,(binOp .eql 31 aF aF).run bN w=.ok (aO cz) w:=λ_=>rfl;(go_in);go_wp2;go_ret;exact⟨_,z,fy.kj _ _,Below.refl _ _⟩)
 .have A:x<G (H w):=g x z;have u:=ak h.bU;have l:fD (dw w<|aK #[] 5) (G<|H w) 5 1 (bX (G<|H w) 0 0 0) 0 []:=World.ownsRow_lit w #[] 0 (aq _) cg z;have C:∀(w:Z)a n c,(binOp .eql 31 (am (M a) n c) aF).run bN w=.ok (aO bD) w:=λ_ _ _ _=>rfl;clear h g;go_in
  go_wp2_with(first
   |(at_builtin;refine cq _ z (.tmp 5) (.tmp 6) 31 z (G (H w)) 5 K (.int .u8 0) 1 1 underlying31 D m o p z cg _ 0 [] z l (X x e) (y bs) k (bs.map (Value.int .u8)) z ar (λQ L E=>by rw[dS,gP A];exact u Q L E) (by intro L r;simp only[cC]at r;obtain⟨O,_,rfl⟩:=r;rfl) U U ar ?_;intro S T b d;have i:=ak b;have j:=ak d;clear b d))
  go_ret;refine⟨_,z,fy.of i ar ar,?_⟩;have:=j.dD (B:=G<|H w) ar (by rintro q⟨⟩;grind);exact⟨this.os,this.tape,this.output,aR ar this.size,λq b=>(this.block q b).trans<|Below.heap_alloc w _ q b⟩
def cJ.A{K:DK}(h:cJ a b K)(r m:Y):pR a (cP (cP a (X b 6)<|ay r) (X b 7)<|ay m) b K {K with fx:={K.fx with L:=r,f:=m}}:=by
 have d:I (λk=>k=b) a (cP (cP a (X b 6)<|ay r) (X b 7)<|ay m):=(iP b a).aL b 7 _<|J z;have c:lU (cP a (X b 6)<|ay r) b K.nb K.sb K.mv {K.fx with L:=r}:=by unfold lU;rw[aY h.S];rfl
 exact h.R9 (by unfold lU;rw[aY c];rfl) d ⟨id,z,id,z⟩
def Lr(h:fD a b k n d T Q)(m:c<=b):fD a c k n d T Q:=by
 obtain⟨i,l|⟨o,e,f,j,g,r⟩⟩:=h;exact⟨i,J l⟩;exact⟨i,bj ⟨o,e,f,j,aR m g,r⟩⟩
def RdP(w c:Z)(b:R)(K:DK)(e:eD)(f:Ending):Prop:=∃a,pR w c b K a/\wR K a/\(∀k,a.j b k->K.j b k)/\((∃d,f=aN (de #[d,ib])/\fy c (G<|H w) d e)\/(0<K.fx.bd/\∃q,f=aN (de #[aF,eW q])/\rC c q 8))
def Jw(c:af){F:dj}(s A:R)(h:cJ a b f)(hg:ii f.ah c=M F)(ha:s<=y F.bB)(hn:A<=1099511627776)(ao:Nm c):cR bN 121 #[aJ b,aw c,ay s,ay A] a λj w'=>RdP a w' b f ((F.bB.drop s).take A) j:=by
 have:y F.bB<=1099511627776:=h.dL (eM hg).2.1;have:=aX h.S 6;have:=cV (i:=6) h.S;have k:∀W,bA (cP a (X b 6)<|ay W) (X b 7)=M (ay f.fx.f)/\iH (cP a (X b 6)<|ay W) (X b 7)=bD:=by intro W;(have S:lU (cP a (X b 6)<|ay W) b f.nb f.sb f.mv {f.fx with L:=W}:=by unfold lU;rw[aY h.S];rfl);exact⟨by rw[cE S];rfl,cV S⟩
 have:=λW=>(k W).1;have:=λW=>(k W).2;have HF:=ak<|λW m=>tu c (h.A W m).ok ao;have r:=ak h.A;let⟨u,hk,aV,p⟩:∃u,u=min A (y F.bB-s)/\s+u<=y F.bB/\(F.bB.drop s).take u=(F.bB.drop s).take A:=⟨min A<|y F.bB-s,rfl,U,by rw[List.take_eq_take_iff];simp⟩;let⟨n,E⟩:∃n,(F.bB.drop s).take A=n:=⟨_,rfl⟩;rw[E]at p|-;have al:y n<=1099511627776:=by rw[<-E];simp;omega
 have:=ak h.L;have an:f.fx.f<A\/¬f.fx.f<A:=U;obtain hm|hm:=an
 all_goals
  go_in
  go_wp21;go_call HF _ _ as j w1⟨bf,hd,ht,⟨B,k,rfl⟩|⟨k,_⟩|⟨O,q,rfl,hq⟩⟩;case inr.inl=>
   rw[show ii f.ah c=M F from hg]at k;cases k
  case inr.inr=>
   have HD:=ak<|(r _ _).aj hd;go_wp2;go_ret2
   exact⟨_,HD,⟨z,z,z⟩,λ_ j=>j,bj ⟨O,q,z,hq⟩⟩
  have ac:B=F:=by rw[show ii f.ah c=M F from hg]at k;cases k;rfl
  subst ac;have hF:=hd.ok.ah B (eM hg).2.1;have Q:=aX hF.1 0;have x:=hF.2.1;have K:=fy.bB x;have T:=(r _ _).aj hd;have av:=T.aA.D;have g:=ak (λ(ax:ae)(O:Bytes w1 ax n)(ho:∀aa,cN ax=M aa->cN B.A=M aa)=>
   show cR bN 27 #[ax] w1 λj w'=>∃v',j=aN v'/\fy w' (G<|H a) v' n/\∃c,pR a w' b f c/\wR f c/\∀u,c.j b u->f.j b u from(Ei O al<|λu j=>(aS x u<|ho u j).2).mono (by
    rintro j w'⟨v',rfl,ap,P⟩;exact⟨v',z,Lr ap av,_,T.bH (I.p P),⟨z,z,z⟩,λ_ j=>j⟩))
  have N:=(show _ from x).2;obtain⟨m,D⟩|⟨aU,o,aD,m,_,_,bd,bb,_,_⟩:=N
  .have t:B.bB=[]:=bG D;have ad:s=0:=by rw[t]at ha;simpa using ha
   have w:n=[]:=by rw[<-p,t];simp
   subst ad;rw[m]at Q;have AX:=ak (g aF (by rw[w];grind)<|λaa j=>by cases j);obtain V|V:=fN A
   .subst V;go_wp2_with(first
     |(go_at_call 27;refine(ag AX).mono ?_;rintro j w2⟨v2,rfl,l,C,e⟩;have v:=ak l;have d:=ak e))
    go_ret2
    exact⟨C,(ag d).1,(ag d).2.1,(ag d).2.2,J ⟨_,z,v⟩⟩
   .go_wp2_with(first
     |(go_at_call 27;refine(ag AX).mono ?_;rintro j w2⟨v2,rfl,l,C,e⟩;have v:=ak l;have d:=ak e))
    go_ret2
    exact⟨C,(ag d).1,(ag d).2.1,(ag d).2.2,J ⟨_,z,v⟩⟩
  .have ab:Bytes w1 (bX aU s u<|o-s) n:=by
    rw[m]at K;have k:=K.Ec ha;rw[ez]at k;have h2:=Bytes.ot (bs:=B.bB.drop s) (dV k) (n:=u) dW;rwa[p]at h2
   have w:s=o->Bytes w1 (bX aU 0 u 0) n:=by
    intro j;obtain rfl:u=0:=U;rw[show n=[]by rw[<-p];simp];exact bj ar
   have AX:=ak<|λ(ax:ae)(O:Bytes w1 ax n)(ho:∀aa,cN ax=M aa->M aU=M aa)=>g ax O<|λaa j=>m▸ho aa j;rw[m]at Q;have:s<=o:=U;by_cases ba:s=o;all_goals
    by_cases bc:A<=y B.bB-s;all_goals
     go_wp21;refine(ag AX _ ?_<|λaa j=>by exact j).mono ?_
     .have k:=ab;have D:=w;first
       |((have j:u=A:=U);rw[j]at D;exact D U)
       |((have j:u=0:=U);rw[j]at D;grind)
       |((have j:u=A:=U);rwa[j]at k)
       |(grind)
     rintro j w2⟨v2,rfl,l,C,e⟩;go_wp2;go_ret2
     exact⟨C,e.1,e.2.1,e.2.2,J ⟨_,z,l⟩⟩
def RR(c:af){ab:dj}(ad ac:R)(h:cJ a b f)(F:ii f.ah c=M ab)(ha:y ab.bB<ad)(hn:ac<=1099511627776)(S:Nm c):cR bN 121 #[aJ b,aw c,ay ad,ay ac] a λk E=>RdP a E b f [] k:=by
 have:y ab.bB<=1099511627776:=h.dL (eM F).2.1;have:=aX h.S 6;have:=cV (i:=6) h.S;have o:∀D,bA (cP a (X b 6)<|ay D) (X b 7)=M (ay f.fx.f)/\iH (cP a (X b 6)<|ay D) (X b 7)=bD:=by intro D;(have B:lU (cP a (X b 6)<|ay D) b f.nb f.sb f.mv {f.fx with L:=D}:=by unfold lU;rw[aY h.S];rfl);exact⟨by rw[cE B];rfl,cV B⟩
 have:=λD=>(o D).1;have:=λD=>(o D).2;have HF:=ak<|λD m=>tu c (h.A D m).ok S;have n:=ak h.A;have:=ak h.L;have Q:f.fx.f<ac\/¬f.fx.f<ac:=U;obtain hm|hm:=Q
 all_goals
  go_in
  go_wp21;go_call HF _ _ as k w1⟨ax,P,ht,⟨p,o,rfl⟩|⟨o,_⟩|⟨w,q,rfl,hq⟩⟩;case inr.inl=>
   rw[show ii f.ah c=M ab from F]at o;cases o
  case inr.inr=>
   have HD:=ak<|(n _ _).aj P;go_wp2;go_ret2
   exact⟨_,HD,⟨z,z,z⟩,λ_ k=>k,bj ⟨w,q,z,hq⟩⟩
  have O:p=ab:=by rw[show ii f.ah c=M ab from F]at o;cases o;rfl
  subst O;have hF:=P.ok.ah p (eM F).2.1;have A:=aX hF.1 0;have s:=hF.2.1;have:=fy.bB s;have C:=(n _ _).aj P;have W:=C.aA.D;have g:=ak (λ(aa:ae)(w:Bytes w1 aa [])(T:∀K,cN aa=M K->cN p.A=M K)=>
   show cR bN 27 #[aa] w1 λk E=>∃N,k=aN N/\fy E (G<|H a) N []/\∃c,pR a E b f c/\wR f c/\∀d,c.j b d->f.j b d from(Ei w ar<|λd k=>(aS s d<|T d k).2).mono (by
    rintro k E⟨N,rfl,V,x⟩;exact⟨N,z,Lr V W,_,C.bH (I.p x),⟨z,z,z⟩,λ_ k=>k⟩))
  have v:=(show _ from s).2;have:¬((ad:Y)<=(y p.bB:Y)):=U;obtain⟨m,h0⟩|⟨av,u,al,m,_,_,ap,ao,_,_⟩:=v
  .rw[m]at A;have AX:=ak (g aF (J ⟨z,z⟩)<|λK k=>by cases k);have:y p.bB=0:=h0;have:(0:Y)<ad:=U;obtain l|l:=fN ac
   .subst l;go_wp2_with(first
     |(go_at_call 27;refine(ag AX).mono ?_;rintro k w2⟨v2,rfl,j,t,e⟩;have r:=ak j;have d:=ak e))
    go_ret2
    exact⟨t,(ag d).1,(ag d).2.1,(ag d).2.2,J ⟨_,z,r⟩⟩
   .go_wp2_with(first
     |(go_at_call 27;refine(ag AX).mono ?_;rintro k w2⟨v2,rfl,j,t,e⟩;have r:=ak j;have d:=ak e))
    go_ret2
    exact⟨t,(ag d).1,(ag d).2.1,(ag d).2.2,J ⟨_,z,r⟩⟩
  .have AX:=ak<|λ(aa:ae)(w:Bytes w1 aa [])(T:∀K,cN aa=M K->M av=M K)=>g aa w<|λK k=>m▸T K k;rw[m]at A;have:(y p.bB:Y)<=(u:Y):=U;by_cases an:y p.bB=u;all_goals
    obtain l|l:=fN ac;all_goals
     go_wp21;refine(ag AX _ ?_<|λK k=>by exact k).mono ?_
     .exact bj ar
     rintro k w2⟨v2,rfl,j,t,e⟩;go_wp2;go_ret2
     exact⟨t,e.1,e.2.1,e.2.2,J ⟨_,z,j⟩⟩
def zev(w c:Z)(b:R)(K:DK)(e:Ending):Prop:=∃a,pR w c b K a/\wR K a/\(∀k,a.j b k->K.j b k)/\∃q d,e=aN (de #[aF,eW q])/\rC c q d/\1<=d
def Oj(c:af)(x n:R)(h:cJ a b f)(t:ii f.ah c=dE)(B:n<=1099511627776)(k:Nm c):cR bN 121 #[aJ b,aw c,ay x,ay n] a λm v=>zev a v b f m:=by
 have:=aX h.S 6;have:=cV (i:=6) h.S;have d:∀r,bA (cP a (X b 6)<|ay r) (X b 7)=M (ay f.fx.f)/\iH (cP a (X b 6)<|ay r) (X b 7)=bD:=by intro r;(have g:lU (cP a (X b 6)<|ay r) b f.nb f.sb f.mv {f.fx with L:=r}:=by unfold lU;rw[aY h.S];rfl);exact⟨by rw[cE g];rfl,cV g⟩
 have:=λr=>(d r).1;have:=λr=>(d r).2;have p:=ak<|λr m=>tu c (h.A r m).ok k;have e:=ak h.A;have:=ak h.L;have j:f.fx.f<n\/¬f.fx.f<n:=U;obtain u|u:=j;(all_goals(go_in);go_wp21;go_call p _ _ as m D⟨E,s,C,⟨w,d,rfl⟩|⟨d,q,rfl,l⟩|⟨A,q,rfl,l⟩⟩;rw[show ii f.ah c=dE from t]at d;cases d;(all_goals have o:=ak<|(e _ _).aj s;go_wp2;(go_ret2);exact⟨_,o,⟨z,z,z⟩,λ_ m=>m,q,_,z,l,cg⟩))
def RgP(w d:Z)(c:R)(K:DK)(a:af)(h n:R)(g:Ending):Prop:=∃b,pR w d c K b/\wR K b/\(∀k,b.j c k->K.j c k)/\((∃e F,ii K.ah a=M F/\g=aN (de #[e,ib])/\fy d (G<|H w) e ((F.bB.drop h).take n))\/∃q f,g=aN (de #[aF,eW q])/\rC d q f/\1<=f)
def GC(c:af)(m n:R)(h:cJ a b f)(p:n<=1099511627776)(e:Nm c):cR bN 121 #[aJ b,aw c,ay m,ay n] a λg d=>RgP a d b f c m n g:=by
 cases hg:ii f.ah c with
 |none=>
  go_call Oj c m n h hg p e as g d⟨i,j,k,l,o⟩;exact⟨i,j,k,l,bj o⟩
 |some F=>
  have t:∀o g d,o=(F.bB.drop m).take n->RdP a d b f o g->RgP a d b f c m n g:=by
   rintro o g d rfl⟨i,j,k,l,⟨v,r,s⟩|⟨_,q,r,s⟩⟩
   .exact⟨i,j,k,l,J ⟨v,F,hg,r,s⟩⟩
   .exact⟨i,j,k,l,bj ⟨q,8,r,s,cg⟩⟩
  by_cases u:m<=y F.bB
  .exact(Jw c m n h hg u p e).mono<|λg d q=>t _ g d z q
  .exact(RR c m n h hg U p e).mono<|λg d q=>t _ g d (by rw[rO U];simp) q
def vz(b:R)(r:Y)(a:eN):DK:=⟨b,b+1,aF,⟨r,0,0,0,0,a⟩,[],[],[],[]⟩
def JL(w:Z):iO (dw w<|.map #[] 0) (G<|H w) []:=⟨#[],0,jo _ _,rfl,sE 0⟩
def zO(w:Z)(r:Y)(b:eN)(e:0<=r/\r<=1099511627776):cR bN 14 #[ay r] w λg c=>g=aN (aJ<|G (H w)+2)/\cJ c (G (H w)+2) (vz (G<|H w) r b)/\gC (G<|H w) w c:=by
 have d:=@tC bN;have a:cJ (dw (dw (dw w<|.map #[] 0)<|.map #[] 0)<|aK #[.map<|M<|G<|H w,.map<|M<|G (H w)+1,aF,ay r,ay 0,ay 0,ay 0,ay 0] 89) (G (H w)+2) (vz (G<|H w) r b):=by refine⟨?_,((JL w).aE _).aE _,?_,by simp[vz],ct _ _ _ _,by simp[vz],by simp[vz],by simp[vz],by simp[vz,Ff.ok],by simp[vz,ft],e,by simp[vz],by simp[vz],by simp[vz]⟩;have:=jo (dw (dw w<|.map #[] 0)<|.map #[] 0)<|aK #[.map<|M<|G<|H w,.map<|M<|G (H w)+1,aF,ay r,ay 0,ay 0,ay 0,ay 0] 89;simpa[lU,vz]using this;have:=(JL<|dw w<|.map #[] 0).aE<|aK #[.map<|M<|G<|H w,.map<|M<|G (H w)+1,aF,ay r,ay 0,ay 0,ay 0,ay 0] 89;simpa[vz]using this
 go_in
 go_wp2;go_ret;exact⟨z,a,((((Below.refl _ w).alloc (aq _) _).alloc ar _).alloc dW _)⟩
section
open ChangeMaps (setBlock)
abbrev gZ:=cy<|Y×ae
def gZ.jn(m:gZ)(k:Y):Option ae:=match m with
 |[]=>dE
 |p::r=>if p.1=k then M p.2 else gZ.jn r k
def kW(b:cy MapEntry)(m:gZ):Prop:=b.map (λe=>(e.key,e.val))=m.map (λp=>(ay p.1,p.2))
theorem kW.kj:kW [] []:=rfl
theorem kW.vL{e:MapEntry}{b:cy MapEntry}{m:gZ}(h:kW (e::b) m):∃p r,m=p::r/\e.key=ay p.1/\e.val=p.2/\kW b r:=by
 cases m with
 |nil=>simp[kW]at h
 |cons p r=>
  simp[kW]at h;exact⟨p,r,z,h.1.1,h.1.2,h.2⟩
theorem IV(k:Y):∀(b:cy MapEntry)(m:gZ)(i:R),kW b m->∃n,Instr.findNow (.int .i64) (ay k) b i=M ((m.jn k).map λv=>(n,v)):=by
 intro b;induction b with
 |nil=>
  intro m i h;obtain rfl:m=[]:=by simpa[kW]using h
  exact⟨0,z⟩
 |cons q b l=>
  intro m i h;obtain⟨p,r,rfl,d,j,g⟩:=h.vL;by_cases e:p.1=k
  .refine⟨i,?_⟩;simp[Instr.findNow,Instr.sameNow,d,gZ.jn,e,j]
  .let⟨n,f⟩:=l r (i+1) g;refine⟨n,?_⟩;simp[Instr.findNow,Instr.sameNow,d,gZ.jn,e,(aI:(k==p.1)=bD),f]
def kO(w:Z)(e:R)(m:gZ):Prop:=∃d b,w.heap[e]?=M (.map d b)/\kW d.toList m/\MapKept.Stamped d b
def gZ.gK(m:gZ)(k:Y)(v:ae):gZ:=match m with
 |[]=>[(k,v)]
 |p::r=>if p.1=k then(k,v)::r else p::gZ.gK r k v
def gZ.dP(m:gZ)(k:Y):gZ:=match m with
 |[]=>[]
 |p::r=>if p.1=k then r else p::gZ.dP r k
theorem kW.Ak{e:MapEntry}{b:cy MapEntry}{p:Y×ae}{m:gZ}(d:e.key=ay p.1)(f:e.val=p.2)(h:kW b m):kW (e::b) (p::m):=by
 simp[kW,d,f];exact h
theorem Hy(k:Y):∀(d:cy MapEntry)(m:gZ)(r:R),kW d m->(Instr.findNow (.int .i64) (ay k) d r=M dE/\m.jn k=dE/\(∀e∈d,e.key≠ay k)/\m.dP k=m/\∀v,m.gK k v=m++[(k,v)])\/∃s e,Instr.findNow (.int .i64) (ay k) d r=M (M (r+s,e.val))/\d[s]?=M e/\e.key=ay k/\m.jn k=M e.val/\(∀v,kW (d.modify s λe=>{e with key:=ay k,val:=v})<|m.gK k v)/\kW (d.eraseIdx s) (m.dP k):=by
 intro d;induction d with
 |nil=>
  intro m r h;obtain rfl:m=[]:=by simpa[kW]using h
  exact J ⟨z,z,ar,z,λ_=>rfl⟩
 |cons e d A=>
  intro m r h;obtain⟨B,C,rfl,f,q,p⟩:=h.vL;by_cases b:B.1=k
  .refine bj ⟨0,e,?_,z,by rw[f,b],?_,?_,?_⟩
   .simp[Instr.findNow,Instr.sameNow,f,b]
   .simp[gZ.jn,b,q]
   .intro v;simp only[gZ.gK,b,mS,sG];exact kW.Ak z z p
   .simpa[gZ.dP,b]using p
  .have g:(k==B.1)=bD:=aI;obtain⟨i,j,t,l,n⟩|⟨s,u,i,j,t,l,n,x⟩:=A C (r+1) p
   .refine J ⟨?_,?_,?_,?_,?_⟩
    .simp[Instr.findNow,Instr.sameNow,f,g,i]
    .simp[gZ.jn,b,j]
    .grind
    .simp[gZ.dP,b,l]
    .intro v;simp[gZ.gK,b,n]
   .refine bj ⟨s+1,u,?_,dV j,t,?_,?_,?_⟩
    .simp[Instr.findNow,Instr.sameNow,f,g,i];omega
    .simp[gZ.jn,b,l]
    .intro v;simp only[gZ.gK,b,mz,sH];exact kW.Ak f q<|n v
    .simp only[gZ.dP,b,mz,xy];exact kW.Ak f q x
theorem NE{P:Program}{w:Z}{mt x B q:R}{C:gZ}(v:P.underlying mt=M (.map x B))(i:P.underlying x=M (.int .i64))(h:kO w q C)(k:Y)(A:ae):∃j,(Instr.mapUpdate mt (.map<|M q) (ay k) A).run P w=.ok () j/\kO j q (C.gK k A)/\w.grownBy j (M q)/\G (H j)=G (H w):=by
 let⟨g,b,f,p,u⟩:=h;have d:=kI (P:=P) f;obtain⟨l,r,m,_,s⟩|⟨D,e,l,r,m,F,s,_⟩:=Hy k g.toList C 0 p;refine⟨setBlock w q<|.map (g.push {key:=ay k,val:=A,born:=b})<|b+1,?_,?_,jW _ _ _,by simp[setBlock]⟩;simp[Instr.mapUpdate,eV v,d,fS i (show MapKept.IsKey (.int .i64) (ay k)by rfl),fQ i l,gU _ f,Result.andThen,setBlock];refine⟨_,_,(ia f).1,?_,tG u m⟩;rw[s];simp[kW]at p|-;exact p;have t:g[D]?=M e:=dV r;refine⟨setBlock w q<|.map (g.modify D λe=>{e with key:=ay k,val:=A}) b,?_,?_,jW _ _ _,by simp[setBlock]⟩;simp[Instr.mapUpdate,eV v,d,fS i (show MapKept.IsKey (.int .i64) (ay k)by rfl),fQ i l,t,m,qu (show MapKept.IsKey (.int .i64) (ay k)by rfl),gU _ f,Result.andThen,setBlock];refine⟨_,_,(ia f).1,?_,rJ u _ _ (λ_ _=>rfl) (λE _ n=>by rw[t]at n;grind)⟩;grind
theorem NI{P:Program}{w:Z}{mt l t m:R}{A:gZ}(r:P.underlying mt=M (.map l t))(g:P.underlying l=M (.int .i64))(h:kO w m A)(s:Y)(B:TypeId):∃i,(Builtin.delete_ #[mt,l] B #[.map<|M m,ay s]).run P w=.ok (de #[]) i/\kO i m (A.dP s)/\w.grownBy i (M m)/\G (H i)=G (H w):=by
 let⟨d,b,f,p,q⟩:=h;have e:=kI (P:=P) f;obtain⟨j,k,u,n,v⟩|⟨x,C,j,k,u,n,v,D⟩:=Hy s d.toList A 0 p;refine⟨setBlock w m<|.map d b,?_,?_,jW _ _ _,by simp[setBlock]⟩;simp[Builtin.delete_,eV r,e,fS g (show MapKept.IsKey (.int .i64) (ay s)by rfl),fQ g j,gU _ f,Result.andThen,setBlock];rw[n];exact⟨_,_,(ia f).1,p,q⟩;have:d[x]?=M C:=dV k;(have:x<d.size:=by have:=iq.1 k;grind);refine⟨setBlock w m<|.map (d.eraseIdxIfInBounds x) b,?_,?_,jW _ _ _,by simp[setBlock]⟩;simp[Builtin.delete_,eV r,e,fS g (show MapKept.IsKey (.int .i64) (ay s)by rfl),fQ g j,gU _ f,Result.andThen,setBlock];refine⟨_,_,(ia f).1,?_,zf q _⟩;simp_all
theorem kO.qR{w i:Z}{j:R}{p:gZ}{d:Option R}(h:kO w j p)(m:w.grownBy i d)(e:M j≠d):kO i j p:=by
 let⟨k,b,g,l,n⟩:=h;exact⟨k,b,(m.block j (az g) e).trans g,l,n⟩
theorem kO.aE{w:Z}{b:R}{m:gZ}(h:kO w b m)(o:Obj):kO (dw w o) b m:=h.qR (eR w o dE) ar
theorem kO.lt{w:Z}{b:R}{m:gZ}(h:kO w b m):b<G (H w):=by
 let⟨_,_,d,_⟩:=h;exact az d
section
variable{P:Program}(w:Z){c:Array Oper}{rest:cy Oper}{o:Oper}{a:Act}{Q:Exit->Act->Z->Prop}
theorem FR(l:o.guard=dE)(i x:Operand)(v r:TypeId)(g:o.op=Op.call {callee:=Callee.builtin Builtin.delete,args:=#[i,x],argTypes:=#[v,r]})(B:TypeId)(p:P.underlying v=M (.map r B))(m:P.underlying r=M (.int .i64))(j:R)(u:gZ)(n:a.eval i=.map (M j))(h:kO w j u)(b:Y)(q:a.eval x=ay b)(k:∀e,kO e j (u.dP b)->w.grownBy e (M j)->wpList P c Q rest (a.put o.dst<|de #[]) e):wpList P c Q (o::rest) a w:=by
 refine ly l λA f=>?_;let⟨e,d,s,t,_⟩:=NI p m h b o.type;unfold Oper.wp;simp[execOp,g,resolve,invoke,builtin,n,q,d,Result.andThen];exact f _ _<|k e s t
end
def su(w:Z)(g r:R)(m left:gZ):Prop:=∃e d b seen f,w.heap[g]?=M (.map e d)/\kW e.toList m/\MapKept.Stamped e d/\w.heap[r]?=M (.mapIter (M g) b seen f)/\(∀x∈e.toList,x.born<b)/\b<=f/\b<=d/\kW (leftOf e seen).toList left
theorem su.ne{w:Z}{d r:R}{m left:gZ}(h:su w d r m left):r≠d:=by
 let⟨e,b,_,_,_,g,_,_,i,_⟩:=h;grind
theorem su.lt{w:Z}{b r:R}{m left:gZ}(h:su w b r m left):r<G (H w):=by
 let⟨g,d,_,_,_,_,_,_,e,_⟩:=h;exact az e
theorem su.qR{w e:Z}{g r:R}{t left:gZ}(h:su w g r t left)(q:e.heap[g]?=w.heap[g]?)(s:e.heap[r]?=w.heap[r]?):su e g r t left:=by
 let⟨j,b,d,seen,i,k,l,m,n,p⟩:=h;exact⟨j,b,d,seen,i,q.trans k,l,m,s.trans n,p⟩
theorem kW.KQ{e:cy MapEntry}{m:gZ}{d b:cy MapEntry}{g:MapEntry}(h:kW e m)(l:e=d++g::b):∃a p f,m=a++p::f/\kW d a/\g.key=ay p.1/\g.val=p.2/\kW b f:=by
 subst l;unfold kW at h;rw[bz,bO]at h;obtain⟨a,q,rfl,i,j⟩:=jy.1 h.symm;obtain⟨p,f,rfl,n,k⟩:=pu.1 j;exact⟨a,p,f,z,i.symm,aI,aI,k.symm⟩
theorem kW.jN{b d:cy MapEntry}{m n:gZ}(h:kW b m)(k:kW d n):kW (b++d) (m++n):=by
 unfold kW at*;rw[bz,bz,h,k]
theorem Rw{P:Program}{w:Z}{mt k i g:R}{n:gZ}(m:P.underlying mt=M (.map k i))(h:kO w g n):∃e,(Instr.range mt<|.map<|M g).run P w=.ok (aJ<|G<|H w) e/\su e g (G<|H w) n n/\w.grownBy e dE/\G (H e)=G (H w)+1:=by
 let⟨d,b,f,l,j⟩:=h;refine⟨_,run_range_map w mt k i g d b m f,⟨d,b,b,#[],b,((qH w _).2 g<|az f).trans f,l,j,(qH w _).1,j.1,aq _,aq _,?_⟩,eR w _ dE,ar⟩;have:leftOf d #[]=d:=by simp[leftOf]
 rwa[this]
theorem Vc{P:Program}{w:Z}{v r:R}{aa left:gZ}(h:su w v r aa left)(L:TypeId):(left=[]/\(Instr.next (aJ r) bD L).run P w=.ok (de #[aO bD]) w)\/∃n K f p,left=n++K::f/\(Instr.next (aJ r) bD L).run P w=.ok (de #[aO cz,ay K.1,K.2]) p/\su p v r aa (n++f)/\w.grownBy p (M r)/\G (H p)=G (H w)/\(Instr.entry<|aJ r).run P p=.ok (de #[ay K.1,K.2]) p:=by
 let⟨l,b,d,seen,N,O,hf,E,S,k,F,t,D⟩:=h;obtain⟨h0,e⟩|⟨B,he,A,g,e⟩:=run_next_at (P:=P) w L r v d N seen l b S O k F;refine J ⟨?_,e⟩;have:(leftOf l seen).toList=[]:=aI;rw[this]at D;simpa[kW]using D;let⟨n,f,u⟩:=uZ he;obtain⟨a,K,ab,rfl,V,x,T,W⟩:=D.KQ u;(have i:A.heap=w.heap:=by obtain rfl|rfl:=g<;>rfl);have s:A.heap[r]?=M (.mapIter (M v) d seen N):=i▸S;have j:(setBlock A r<|.mapIter (M v) d (seen.push B.born) b).heap[r]?=M (.mapIter (M v) d (seen.push B.born) b):=(ia s).1;have m:∀k,k≠r->(setBlock A r<|.mapIter (M v) d (seen.push B.born) b).heap[k]?=w.heap[k]?:=λk x=>((ia s).2 k x).trans (by rw[i]);have q:=(m v<|λB=>h.ne B.symm).trans O;(have C:B∈l.toList:=by(have:(leftOf l seen).toList.Sublist l.toList:=by simp[leftOf]);grind);refine bj ⟨a,K,ab,_,z,x▸T▸e,⟨l,b,d,_,b,q,hf,E,j,k,t,t,JN E.2.1 u▸V.jN W⟩,⟨?_,?_,?_,?_,aI⟩,?_,?_⟩;obtain rfl|rfl:=g<;>rfl;obtain rfl|rfl:=g<;>rfl;obtain rfl|rfl:=g<;>rfl;simp[setBlock,i];simp[setBlock,i];rw[<-x,<-T];exact run_entry_at _ r v d seen l b B j q C E.2.1
section
variable{P:Program}(w:Z){c:Array Oper}{rest:cy Oper}{o:Oper}{a:Act}{Q:Exit->Act->Z->Prop}
end
theorem G4{P:Program}{w:Z}{mt g e i:R}{m:gZ}{s:TypeInfo}{m9:ae}(q:P.underlying mt=M (.map g e))(f:P.underlying g=M (.int .i64))(n:P.info? e=M s)(r:s.zero=M m9)(h:kO w i m)(k:Y):(Instr.lookup mt (.map<|M i) (ay k) cz).run P w=.ok (de #[(m.jn k).getD m9,aO (m.jn k).isSome]) w:=by
 let⟨d,b,l,j,_⟩:=h;let⟨t,p⟩:=IV k d.toList m 0 j;unfold Instr.lookup;rw[jx,eV q];simp only[kH,jx,(by simp[getObj,Sem.run,l]:(getObj i).run P w=.ok (.map d b) w),rH];rw[show(10000:R)=9999+1 from rfl,(fS (P:=P) (w:=w) (k:=ay k) f (by rfl) d.isEmpty 9999)];simp only[kH,(fQ (P:=P) (w:=w) f p)];cases hg:m.jn k with
 |none=>simp[zeroValue,typeInfo,n,r]
 |some v=>simp
theorem kW.xM{b:cy MapEntry}{m:gZ}(h:kW b m):y b=y m:=by
 have:=cD y h;grind
theorem NG{P:Program}{w:Z}{mt j e l:R}{m:gZ}(i:P.underlying mt=M (.map j e))(h:kO w l m)(k:TypeId):(Builtin.len_ #[mt] k #[.map<|M l]).run P w=.ok (ay<|y m) w:=by
 let⟨n,b,g,f,_⟩:=h;have d:=f.xM;rw[nG]at d;simp[Builtin.len_,eV i,(kI (P:=P) g),goInt,Result.andThen,d]
theorem kO.lX(w:Z):kO (dw w<|.map #[] 0) (G<|H w) []:=by
 refine⟨#[],0,?_,kW.kj,sE 0⟩;show(w.heap.push _)[G<|H w]?=_;simp
theorem kO.dU{w w':Z}{b:R}{m:gZ}(h:kO w b m)(i:w'.heap[b]?=w.heap[b]?):kO w' b m:=by
 let⟨e,d,f,g⟩:=h;exact⟨e,d,i.trans f,g⟩
end
section
open ChangeMaps (setBlock)
def mK(w:Z)(f:R)(g:TypeDesc)(e:ae->Prop):Prop:=∃d b,w.heap[f]?=M (.map d b)/\MapKept.Stamped d b/\(∀x∈d.toList,MapKept.IsKey g x.key)/\(∀x∈d.toList,x.val=ef #[])/\∀k,e k↔∃x∈d.toList,x.key=k
theorem mK.lt{w:Z}{b:R}{g:TypeDesc}{e:ae->Prop}(h:mK w b g e):b<G (H w):=by
 let⟨_,_,d,_⟩:=h;exact az d
theorem mK.dU{w w':Z}{b:R}{j:TypeDesc}{e:ae->Prop}(h:mK w b j e)(k:w'.heap[b]?=w.heap[b]?):mK w' b j e:=by
 let⟨f,d,g,i⟩:=h;exact⟨f,d,k.trans g,i⟩
theorem mK.lX(w:Z)(d:TypeDesc):mK (dw w<|.map #[] 0) (G<|H w) d aC:=by
 refine⟨#[],0,?_,⟨ar,ar,ar⟩,ar,ar,ar⟩;show(w.heap.push _)[G<|H w]?=_;simp
theorem mK.yL{w:Z}{n:R}{p:TypeDesc}{e d:ae->Prop}(h:mK w n p e)(q:∀k,d k↔e k):mK w n p d:=by
 let⟨f,b,g,i,j,l,m⟩:=h;exact⟨f,b,g,i,j,l,λk=>(q k).trans<|m k⟩
theorem DG{P:Program}{w:Z}{mt r m t:R}{u:TypeDesc}{q:ae->Prop}{C:TypeInfo}(A:P.underlying mt=M (.map r m))(k:P.underlying r=M u)(x:P.info? m=M C)(B:C.zero=M (ef #[]))(h:mK w t u q)(p:ae)(d:MapKept.IsKey u p)(s:eN)(K:s=cz↔q p):(Instr.lookup mt (.map<|M t) p cz).run P w=.ok (de #[ef #[],aO s]) w:=by
 let⟨e,b,v,L,l,N,F⟩:=h;have g:=fS (P:=P) (w:=w) (k:=p) k d e.isEmpty 9999;have j:(getObj t).run P w=.ok (.map e b) w:=by simp[getObj,Sem.run,v]
 unfold Instr.lookup;rw[jx,eV A];simp only[kH,jx,j,rH];rw[show(10000:R)=9999+1 from rfl,g];simp only[kH];obtain⟨f,n⟩|⟨O,D,f,n,E⟩:=MapKept.findNow_spec d e.toList 0 l;have i:=fQ (P:=P) (w:=w) k f;(have:s=bD:=by grind);simp[i,zeroValue,typeInfo,x,B,this];have:=fQ (P:=P) (w:=w) k f;have:D∈e.toList:=iy n;have:s=cz:=aI;simp_all
theorem BE{P:Program}{w:Z}{mt C E t:R}{D:TypeDesc}{B:ae->Prop}(v:P.underlying mt=M (.map C E))(n:P.underlying C=M D)(h:mK w t D B)(q:ae)(g:MapKept.IsKey D q):∃p,(Instr.mapUpdate mt (.map<|M t) q<|ef #[]).run P w=.ok () p/\mK p t D (λx=>B x\/x=q)/\w.grownBy p (M t)/\G (H p)=G (H w):=by
 let⟨d,b,k,u,l,N,L⟩:=h;have j:=kI (P:=P) k;obtain⟨r,m⟩|⟨A,e,r,m,F⟩:=MapKept.findNow_spec g d.toList 0 l;refine⟨setBlock w t<|.map (d.push {key:=q,val:=ef #[],born:=b})<|b+1,?_,?_,jW _ _ _,by simp[setBlock]⟩;simp[Instr.mapUpdate,eV v,j,fS n g,fQ n r,gU _ k,Result.andThen,setBlock];refine⟨_,_,(ia k).1,tG u m,?_,?_,?_⟩;(grind);(grind);intro x;simp only[Array.toList_push,aP,bY];grind
 have K:d[A]?=M e:=dV m;have:e∈d.toList:=iy m;refine⟨setBlock w t<|.map (d.modify A λe=>{e with key:=q,val:=ef #[]}) b,?_,?_,jW _ _ _,by simp[setBlock]⟩;simp[Instr.mapUpdate,eV v,j,fS n g,fQ n r,K,F,qu g,gU _ k,Result.andThen,setBlock];have:∀b,d[A]?=M b->b.key=q:=aI;refine⟨_,_,(ia k).1,rJ u _ _ (λ_ _=>rfl) aI,MapKept.isKey_modify l _ _ aI,?_,?_⟩;(grind[Array.toList_modify,getElem?_of_mem,mem_of_getElem?]);intro x;have i:((d.modify A λe=>{e with key:=q,val:=ef #[]}).toList.map (·.key))=d.toList.map (·.key):=MapKept.modify_keys _ _ aI;(have s:(∃b∈(d.modify A λe=>{e with key:=q,val:=ef #[]}).toList,b.key=x)↔∃b∈d.toList,b.key=x:=by rw[<-cC (f:=λb:MapEntry=>b.key),<-cC (f:=λb:MapEntry=>b.key),i]);rw[s,<-L x];grind
section
variable{P:Program}(w:Z){c:Array Oper}{rest:cy Oper}{o:Oper}{a:Act}{Q:Exit->Act->Z->Prop}
theorem wG(p:o.guard=dE)(j x k:Operand)(C:TypeId)(g:o.op=Op.mapUpdate C j x k)(B E:TypeId)(s:P.underlying C=M (.map B E))(m:TypeDesc)(q:P.underlying B=M m)(l:R)(i:ae->Prop)(r:a.eval j=.map (M l))(h:mK w l m i)(b:ae)(f:MapKept.IsKey m b)(u:a.eval x=b)(t:a.eval k=ef #[])(n:∀w',mK w' l m (λx=>i x\/x=b)->w.grownBy w' (M l)->wpList P c Q rest (a.put o.dst jm) w'):wpList P c Q (o::rest) a w:=by
 refine ly p λD e=>?_;let⟨w',d,v,A,_⟩:=BE s q h b f;unfold Oper.wp;simp[execOp,g,r,u,t,d,Result.andThen];exact e _ _<|n w' v A
end
end
def BF:∀{m:gT}{k:af},m.jn k=dE->m.gK k d=m++[(k,d)]
 |[],k,_=>rfl
 |p::r,k,h=>by
  unfold gT.jn at h;by_cases e:p.1=k
  .rw[fV e]at h;cases h
  .rw[fM e]at h;unfold gT.gK;rw[fM e,BF h];rfl
def Pt{v:ae}:∀{m:gT}{k:af},m.jn k=dE->gT.jn (m++[(k,v)]) k=M v
 |[],k,_=>by simp[gT.jn]
 |p::r,k,h=>by
  unfold gT.jn at h;by_cases e:p.1=k
  .rw[fV e]at h;cases h
  .rw[fM e]at h;show gT.jn (p::(r++[(k,v)])) k=M v;unfold gT.jn;rw[fM e];exact Pt h
def Pv{a:cy dj}(h:B∉a.map dj.dA):gT.jn (a.map dj.nm) B=dE:=by
 induction a with
 |nil=>rfl
 |cons f a b=>
  rw[bO,dy,not_or]at h;rw[bO];unfold gT.jn;rw[fM<|λe=>h.1 e.symm];exact b h.2
def tr{m:gT}{e:Array ae}{t:TypeId}{g:R×R}(h:iO a b m)(d:a.heap[c]?=M (aK e t g)):c≠b:=by
 rintro rfl;let⟨k,j,i,_⟩:=h;rw[i]at d;cases d
def cJ.sN{K:DK}{f:dj}{m:gT}(h:cJ a b K)(C:K.l=[])(j:K.qN=[])(r:I (λk=>k=K.nb\/k=K.sb) a e)(s:iO e K.nb (K.ah.map dj.nm++[f.nm]))(l:iO e K.sb m)(B:sw e f)(A:G (H a)<=f.l)(v:∀k,cN f.A=M k->G (H a)<=k)(w:ft (K.ah++[f])<=4611686018427387904):cJ e b {K with ah:=K.ah++[f],sm:=m}/\∀k,DK.j b {K with ah:=K.ah++[f],sm:=m} k->K.j b k\/k=f.l\/cN f.A=M k:=by
 have g:∀{k:R}{b:Array ae}{t:TypeId}{c:R×R},a.heap[k]?=M (aK b t c)->¬(k=K.nb\/k=K.sb):=λi n=>n.elim (tr h.l i)<|tr h.D i;refine⟨⟨?_,?_,l,h.ne,?_,?_,?_,?_,h.L,w,h.v,by rw[j];simp,by rw[j];simp,by rw[j];simp⟩,?_⟩;exact(r.A b (az h.S)<|g h.S).trans h.S;rwa[bz];exact r.aZ h.o (λk i n=>by let⟨o,u⟩:=fZ h.o i;grind);grind
 intro t c;obtain c|c:=aP.1 c;have d:=h.ah t c;exact d.aA r (g d.1) (λk i n=>by let⟨o,u⟩:=fZ d.2.1 i;grind);grind
 show(K.ah++[f]).Pairwise mF;rw[eH];refine⟨h.fp,nI _ _,λt c x p=>?_⟩;obtain rfl:=bY.1 p;have d:=h.ah t c;refine⟨λD=>bP<|az d.1,λk i q=>?_⟩;have:=(aS d.2.1 k i).2;have:=v k q;omega;rintro k(n|n|n|n|⟨x,p,n⟩|⟨t,c,n⟩);exact J<|J n;exact J<|bj<|J n;exact J<|bj<|bj<|J n;exact J<|bj<|bj<|bj<|J n;(grind);obtain c|c:=aP.1 c;obtain c|c:=aP.1 c;exact J<|bj aI;(grind);grind
def CD{P:Program}{s:Oper}{i:Act}{K:Act->Z->Prop}{Q:Exit->Act->Z->Prop}(j B k:Operand)(A:TypeId)(g:s.op=Op.mapUpdate A j B k)(w C:TypeId)(p:P.underlying A=M (.map w C))(n:P.underlying w=M .string)(l:R)(x:gT)(o:i.eval j=.map (M l))(h:iO a l x)(b:af)(c:ae)(r:i.eval B=aw b)(q:i.eval k=c)(m:∀d,iO d l (x.gK b c)->a.grownBy d (M l)->G (H d)=G (H a)->K (i.put s.dst jm) d):Oper.wp P s i a K Q:=by
 let⟨d,e,t,u,v⟩:=ED p n h b c;unfold Oper.wp;simp[execOp,g,o,r,q,e,Result.andThen];exact m d t u v
def Uq(V:ju)(w c:Z)(d:Option E)(e:Ending):Prop:=∃(b:E)(ok:eN)(a:ae),e=aN (de #[b.t,aO ok,a])/\(de #[b.t,aO ok,a]=Hs d\/V.Xp/\b=zE/\ok=bD/\∃q,a=eW q/\tB c q)/\V.D c/\I V.F w c
def M0(t:TypeId)(a b:af):binOp .gtr t (aw a) (aw b)=pure (aO !(Op.bytesLess a.toList b.toList||a.toList==b.toList)):=by simp[binOp,Op.stringOp]
def Ud(a b:af):(!(Op.bytesLess a.toList b.toList||a.toList==b.toList))=kG b a:=by
 show(!(kG a b||a.toList==b.toList))=kG b a;grind[sY,An,jq,ou]
def EC{n0 j8:R}{ks:la}{cs:iF}(d:af)(C:Y)(h:nX s n0 j8 ks cs a)(hD:s.D a)(n:n0<=G (H a))(hF:∀o,s.F o->o<n0):cR bN 337 #[aJ j8,aw d,bw C] a λao w'=>Uq s a w' (kC C cs.flatten d) ao:=by
 let⟨o,r⟩:=UQ h.A d;have L:gC (G<|H a) a (dw a<|aK #[aw ⟨#[]⟩,aw ⟨#[]⟩,aO bD,bw 0] 223):=(Below.refl _ a).alloc (aq _) _;let⟨dv,ap,bk,bg,bo,bi,B,u,bl,hm,bn,bm⟩:=h.D;have l:=hm.lt;have al:=h.dL;have:=hm.f;have Q:cR bN 341 #[aJ j8,aw d] (dw a<|aK #[aw ⟨#[]⟩,aw ⟨#[]⟩,aO bD,bw 0] 223) λao w'=>ao=aN (ay o)/\gC (G<|H a) a w'/\jP w' (G<|H a) zE:=by go_call Cz d (hm.dD L l.1 l.2) h.A as ao w'⟨m,rfl,t,w,x,f⟩;obtain rfl:o=m:=r.eq ⟨t,w,x⟩;exact⟨z,L.trans<|f.mono L.size,(f.block _ ar).trans<|aQ _ z⟩
 have N:∀W,gC (G<|H a) a W->bA W (X j8 5)=M (bX bi B (y ks) u):=λW v=>by rw[cE (hm.dD v l.1 l.2).g];rfl
 have D:=ak N;have A:∀av,n0<=av->¬s.F av:=aI;have F:=ak<|λW(v:gC (G<|H a) a W)=>s.l hD (I.p (S:=aC) v) cY;have:=M0;by_cases O:o<y ks
 .have ab:∀W,gC (G<|H a) a W->bA W (X bi<|B+o*5+3)=M (aw ks[o].eJ):=λW v=>by rw[bJ];exact(hm.dD v l.1 l.2).bU _ _<|jt ks o 3 O cg
  have V:=ak ab;have e1:((o:Y)==(y ks:Y))=bD:=by simp;omega
  have:(o:Y)<(y ks:Y):=U;have:(0:Y)<=(o:Y):=U;have ad:=Ud ks[o].eJ d;cases hfk:kG d ks[o].eJ with
  |true=>
   rw[hfk]at ad;have g:=h.AS r (λ_=>hfk) C;rw[g];generalize ks[o].eJ=fk at*;go_in
   go_wp2_with(go_at_call 341;refine Q.mono ?_;rintro ao j⟨rfl,c,b⟩;have N:=D j c;have ab:=V j c;let⟨z0,z1,z2,z3⟩:=b.bU;have y0:=b.bS (i:=0);have y1:=b.bS (i:=1);have y2:=b.bS (i:=2);have y3:=b.bS (i:=3);have k:=ak b;have e:=ak c)
   refine ci (gY z _ _ (G<|H a) zE _ _ z<|k.gK zE) z ?_;have p:gC (G<|H a) a (yo j (G<|H a) zE):=e.trans<|(kp j (G<|H a) zE).dD e.size<|λav hx=>U;exact⟨zE,bD,ib,z,J z,F _ p,I.p p⟩
  |false=>
   rw[hfk]at ad;have x:o<y cs:=U;rw[h.Eb r x C];have bf:gF cs[o]:=h.o.kD<|eC<|aB x;have:=h.f _<|aB x;let⟨aV,ba,HL⟩:=eU (λW(v:gC (G<|H a) a W)=>Oi (h.bM<|(I.p (S:=aC) v).bM n cY cY) (F W v) (aR n v.size) hF o O x) bf al;generalize ks[o].eJ=fk at*;generalize cs[o]=bh at*;have ac:=(λe(w2 j:Z)(a:fD w2 (G<|H j) 223 4 e (y bh) (bu bh))=>CK d C (dQ a) ba U<|λc b=>(a.lt c b).2);go_in
   go_wp2_with(go_at_call 341;refine Q.mono ?_;rintro ao j⟨rfl,c,b⟩;have N:=D j c;have:=V j c;have bd:=aV j c;have k:=ak b;have e:=ak c)
   go_call bd as ao w2(⟨v2,rfl,P,K,t⟩|⟨hX,q,rfl,hq,K,t⟩)
   .have w:=ac v2 w2 j P;let⟨aD,ax,bb⟩:=eU (k.aA t<|A _ n) K t;let⟨g9,ok,hy⟩:∃(g9:E)(ok:eN),Hs (kC C bh d)=de #[g9.t,aO ok,ib]:=by
     cases kC C bh d with
     |none=>exact⟨zE,bD,z⟩
     |some av=>exact⟨av,cz,z⟩
    rw[hy]at w;let⟨xk,xv,xd,xb⟩:=g9;unfold E.t at w;simp only at w;go_wp2_with(go_at_call 331;refine w.mono ?_;rintro ao w3⟨rfl,aa⟩;have f:=aD.aA (I.p (S:=aC) aa)<|λbh=>bh;let⟨z0,z1,z2,z3⟩:=f.bU;have y0:=f.bS (i:=0);have y1:=f.bS (i:=1);have y2:=f.bS (i:=2);have y3:=f.bS (i:=3);have aU:=ak f;have T:=ak aa)
    refine ci (gY z _ _ (G<|H a) ⟨xk,xv,xd,xb⟩ _ _ z<|aU.gK ⟨xk,xv,xd,xb⟩) z ?_;have an:I s.F a w3:=((I.p (S:=s.F) e).aj bb<|λo r=>J r).aj (I.p (S:=s.F) T)<|λo r=>J r;have m:=kp w3 (G<|H a) ⟨xk,xv,xd,xb⟩;have bc:=s.l ax (I.p (S:=aC) T) cY;exact⟨⟨xk,xv,xd,xb⟩,ok,ib,z,J hy.symm,s.l bc m (λav hx=>by subst hx;exact A _ n),an.aj m ar⟩
   .have f:=k.aA t<|A _ n;let⟨z0,z1,z2,z3⟩:=f.bU;have y0:=f.bS (i:=0);have y1:=f.bS (i:=1);have y2:=f.bS (i:=2);have y3:=f.bS (i:=3);go_wp2;refine ci (gY z _ _ (G<|H a) zE _ _ z<|f.gK zE) z ?_;have m:=kp w2 (G<|H a) zE;exact⟨zE,bD,eW q,z,bj ⟨hX,z,z,q,z,hq.aA m f.nY⟩,s.l K m (λav hx=>by subst hx;exact A _ n),((I.p (S:=s.F) e).aj t<|λo r=>J r).aj m ar⟩
 have f:o=y ks:=bP r.le;have g:=h.AS r (λa=>absurd a O) C;rw[g];(have:((o:Y)==(y ks:Y))=cz:=by simp;omega);subst f;(go_in);(go_wp2_with(go_at_call 341;refine Q.mono ?_;rintro ao j⟨rfl,c,b⟩;have:=D j c;let⟨z0,z1,z2,z3⟩:=b.bU;have:=b.bS (i:=0);have:=b.bS (i:=1);have:=b.bS (i:=2);have:=b.bS (i:=3);have k:=ak b;have e:=ak c));refine ci (gY z _ _ (G<|H a) zE _ _ z<|k.gK zE) z ?_;have p:gC (G<|H a) a (yo j (G<|H a) zE):=e.trans<|(kp j (G<|H a) zE).dD e.size<|λav hx=>U;exact⟨zE,bD,ib,z,J z,F _ p,I.p p⟩
section
open Shelf
attribute [local go_sem] Oper.semAt_some
def By(v:ae)(n c:R):ae:=match v with
 | .slice (M ⟨d,a,none⟩) _ b=>.slice (M ⟨d,a+n*4,dE⟩) c<|b-n
 |v=>v
def IZ(v:ae)(p:R×dB):Array ae:=#[By v p.1<|y p.2]
def CY{q p g s:dB}(h:lF a d q)(f:q=p++g++s)(k:g≠[]):lF a (By d (y p)<|y g) g:=by
 have l:0<y g:=iZ.2 k;obtain⟨u,⟨rfl,t⟩|⟨r,b,c,rfl,o,i⟩⟩:=h;have:=cD y f;grind;have n:=cD y f;simp at n;refine⟨by rw[ic],bj ⟨r,b+y p*4,c-y p,rfl,U,λj v m=>?_⟩⟩;have e:j<y g*4:=by rw[<-ic];grind
 have:=i (y p*4+j) v (by rw[f,ie,ie,cw,fP (by rw[ic];omega),ic,show y p*4+j-y p*4=j by omega,ir (by rw[ic];exact e)];exact m);rwa[bJ]
def CP(v:ae)(x:Option Addr)(n c:R)(a:v=am x n c)(w:Z):cR bN 142 #[v] w λe b=>e=aN (.func (.func 209) #[] #[ee<|M ⟨G<|H w,0,dE⟩])/\b=dw w (aK #[v] 103):=by
 subst a;go_in
 go_wp2;go_ret;simp_all
def VU(r:b<=c)(s:c<y i)(w:∀j(u:j+1<y i),b<=j->j<c->i[j+1].D=i[j].D)(v:∀h:c+1<y i,i[c+1].D≠i[c].D):∃g,i.drop b=g++i.drop (c+1)/\g≠[]/\y g=c+1-b/\jh (i.drop b)=g::jh (i.drop<|c+1):=by
 have p:i.drop b=(i.drop b).take (c+1-b)++i.drop (c+1):=by(conv=>lhs;rw[<-du (c+1-b) (i.drop b)]);rw[List.drop_drop,show b+(c+1-b)=c+1 by omega]
 have:∀t(d:t<=c)(a:b<=t),(i[t]'U).D=(i[b]'U).D:=by
  intro t;induction t with
  |zero=>grind
  |succ t f=>
   grind
 have d:y ((i.drop b).take<|c+1-b)=c+1-b:=by simp;omega
 have e:(i.drop b).take (c+1-b)≠[]:=λa=>by rw[a]at d;grind
 have a:∀x∈(i.drop b).take (c+1-b),x.D=(i[b]'U).D:=by grind[getElem_of_mem]
 refine⟨_,p,e,d,?_⟩;conv=>lhs;rw[p]
 rw[Ph _ _ ?_,Zf e<|λx n k o=>(a x n).trans (a k o).symm];rfl;intro q l t m;have:=a q<|List.mem_of_getLast? l;(have f:c+1<y i:=by grind);rw[dm f]at m;grind
def yC(T bn:R)(hb:fE a b d 103)(hr:lF a d i)(O:∀o,cN d=M o->o<T)(aU:T<=G (H a))(bl:y i<=40000000000):Qy (IZ d) CX T bn 209 #[ee<|M ⟨b,0,dE⟩] (pK 0<|jh i) (λo=>o=b) a:=by
 intro lr bm Jx bd ba hs hD hJ av n aV hY;let⟨bo,D,hv⟩:=cG hr;let⟨HB,HR,aa,HS,HJ,ac,HY,ab,B⟩:=Hp hb hr O hs hJ av hY n<|λc bd ba q(h:bm c bd ba)=>aV c bd ba (ba.drewN q) (λ_=>False) h (I.p<|below_drewN (Below.refl _ ba) q) cY;have bf:bA ba ⟨b,0,dE⟩=M d:=hs.u (J z) hb.u;subst hv;refine tf func209 z trivial ?_ z;simp only[ntmps209,gm,bK,eE,jZ,Nat.reduceSub,fc,fa,gp,fG,ep,dt];gi_wp2;gi_loopw [3,7] (λe d wr=>∃(k f:R)(c:cy (R×dB))(p:fB),e=ay k/\d=ay f/\k<=f/\f<=y i/\pK 0 (jh i)=c++pK k (jh<|i.drop k)/\(∀j(w:j<y i),k<=j->j<f->∃h:j+1<y i,i[j+1].D=i[j].D)/\bm c p wr/\(∀o,o=b->¬p o)/\kZ CX T (λo=>o=b) a wr) (λ_ d _=>y i-(intOf d).toNat)
 exact⟨0,0,[],bd,z,z,aq _,bQ _,z,λj _ _ h=>U,HJ,ac,HS⟩
 .obtain⟨k,f,c,p,rfl,rfl,ax,bk,hl,F,ap,l,g⟩:=hrel;have bg:bA wr ⟨b,0,dE⟩=M (am bo (y i) D):=g.u (J z) HB.u;let⟨HL,A,r,C⟩:=jr hl F ap g;by_cases n:f<y i
  .let⟨bb,e,s,hx,N,v⟩:∃bb e s,am bo (y i) D=am (M ⟨bb,e,dE⟩) (y i) s/\y i<=s/\∀j a,(bu i)[j]?=M a->bA wr ⟨bb,e+j,dE⟩=M a:=by
    obtain⟨E,⟨t,L⟩|⟨V,x,u,t,N,K⟩⟩:=ag HR
    .omega
    .exact⟨V,x,u,t,N,λj a w=>g.u (bj ⟨aa V (by rw[t];rfl),id⟩)<|K j a w⟩
   cases hx;have e1:(f:Y)<(y i:Y):=U;have e2:(0:Y)<=(f:Y):=U;have g0:=v _ _ (fH i f n).1;by_cases hn:∃h:f+1<y i,i[f+1].D=i[f].D
   .let⟨m,x⟩:=hn;have K:=v _ _ (fH i (f+1) m).1;rw[x]at K;have u:=ak (show∀j(w:j<y i),k<=j->j<f+1->∃h:j+1<y i,i[j+1].D=i[j].D fromλj w E t=>by
     obtain Q|Q:=ol<|show j<=f by omega
     .exact A j w E Q
     grind)
    generalize i[f].D=L at*;have e3:(f:Y)+1<(y i:Y):=U;have e4:(0:Y)<=(f:Y)+1:=U;gi_wp2;refine Av.2 ?_;go_quiet(fail)
    gi_wp2;go_roundw
    .exact⟨k,f+1,c,p,z,dM,U,U,HL,u,B _ _ _ _ r,l,C.aj ⟨aq _,λ_ _=>rfl⟩⟩
    .simp[intOf];omega
   .let⟨V,bh,bi,K,L⟩:=VU ax n (λj w E t=>(A j U E t).2)<|λh D=>hn ⟨h,D⟩;have P:(c++[(k,V)])<+:pK 0 (jh i):=⟨pK (k+y V)<|jh<|i.drop<|f+1,by rw[ag HL,L,pK];simp⟩;have aD:pK 0 (jh i)=(c++[(k,V)])++pK (f+1) (jh<|i.drop<|f+1):=by rw[ag HL,L,pK,K,show k+(f+1-k)=f+1 by omega];simp
    have e6:(k:Y)<=(f:Y)+1:=U;have e7:(f:Y)+1<=(D:Y):=U;have e8:¬(D-k=0):=U;have e9:(0:Y)<=(k:Y):=U;have e4:(0:Y)<=(f:Y)+1:=U;have al:=ak (λq=>show YieldAt Fence.wide (bn-1) bN lr #[am (M ⟨bb,e+k*4,dE⟩) (f+1-k)<|D-k] (wr.drewN q) _ from by
     have:=HY c (k,V) p (wr.drewN q) P (B _ _ _ q r) trivial;unfold IZ By at this;simp only[K]at this;exact this)
    obtain m|m:=iT (f+1)<|y i;case' inl=>
     have:=v _ _ (fH i (f+1) m).1;have:=DA<|λD=>hn ⟨m,D⟩;have e3:(f:Y)+1<(y i:Y):=U
    case' inr=>
     have:((f:Y)+1<(y i:Y))=False:=by simp;omega
    all_goals
     gi_wp2;refine Av.2 ?_;go_quiet(fail)
     let⟨fn,bc,S,body,hy,hR⟩:=al nq;gi_wp2;refine⟨(λD=>(by cases D)),hR.mono ?_⟩;rintro bp W3(⟨rfl,_,B3,ao,u,an⟩|⟨rfl,hx⟩)
     .have W:=ak ao;have ad:=ak u;gi_wp2;go_roundw
      .have u:=ag ad;have g:=ag C;have:b<G (H wr):=au (az HB) g.1;refine⟨f+1,f+1,c++[(k,V)],B3,dM,dM,aq _,U,aD,λj _ E t=>U,W,λo x Q=>?_,?_⟩
       .obtain Q|Q:=an o Q
        .exact l o x Q
        .subst x;exact absurd (show G (H wr)<=_ from Q) U
       .refine g.aj<|kZ.aj (b:=wr.drewN nq) ⟨aq _,λ_ _=>rfl⟩ ?_;exact u.bM (aR aU g.1) (λo x=>⟨sM,l o x⟩)<|λo x a=>bP<|(ab _ _ _ r o x).1
      .simp[intOf];omega
     .have HX:=ak hx;gi_wp2;exact ci (jb z _ _ _) z ⟨⟨_,z⟩,bj ⟨_,HX⟩⟩
  .have:f=y i:=U;have m:k=y i:=by
    obtain Q|Q:=iT k<|y i
    .let⟨h,_⟩:=F (y i-1) U U U;omega
    .omega
   have e:=ak (show pK 0 (jh i)=c by rw[hl,m,lh];simp[jh,pK]);have:((f:Y)<(y i:Y))=False:=by simp;omega
   gi_wp2;refine xV (jb z _ _ _) z ?_;first|refine⟨⟨_,z⟩,J ⟨⟨p,?_⟩,trivial⟩⟩|refine⟨⟨_,z⟩,J ⟨p,?_,trivial⟩⟩
   rwa[ag e]
end
section
open Shelf
attribute [local go_sem] Oper.semAt_some
def Wb(t:Array ae)(f:eD)(p:Y->eN)(K:Enters bN b)(w:Row a 1 d (y f) (f.map<|Value.int .u64))(P:∀x,cN d=M x->x<G (H a))(hn:y f<=40000000000)(L:∀A∈f,∀W,gC (G<|H a) a W->cR bN b (#[bw A]++t) W λu B=>u=aN (aO<|p A)/\gC (G<|H W) W B):cR bN 210 #[d,.func (.func b) #[] t] a λu S=>(∃x:Y,u=aN (ay x)/\decide (0<=x)=f.any p)/\gC (G<|H a) a S:=by
 have:∀c a,(callFunc b c).run bN a=.ok (.enter b c) a:=K;let⟨aa,ab,q⟩:=cG w;subst q;go_in
 go_wp2;go_loopw [8] (λi wr=>∃n:R,n<=y f/\i=ay n/\gC (G<|H a) a wr/\(f.take n).any p=bD) (λi _=>y f-(intOf i).toNat)
 exact⟨0,bQ _,z,Below.refl _ _,z⟩
 .obtain⟨n,O,rfl,c,m⟩:=hrel;by_cases i:n<y f
  .let⟨C,g,Q,F⟩:∃C g,aa=M (X C g)/\bA wr (X C<|g+n)=M (bw f[n]):=by
    obtain⟨h1,⟨v,h0⟩|⟨D,j,s,v,N,E⟩⟩:=w
    .omega
    .cases v;exact⟨D,j,z,(c.cell (p:=(X D<|j+n))<|P D z).trans<|E n _<|by simp[i]⟩
   subst Q;have e:=L f[n] (aB i) wr c;have V:(n:Y)<(y f:Y):=U;have:(0:Y)<=(n:Y):=U;have r:(f.take<|n+1).any p=p f[n]:=by rw[aG i,List.any_append,m];simp
   have o:=ak<|aB i;generalize f[n]=A at*;cases hp:p A with
   |true=>
    rw[hp]at e;have j:=ak<|show f.any p=cz from nL.2 ⟨A,o,hp⟩;go_wp2_with(go_at_fn b;refine e.mono ?_;rintro u T⟨rfl,l⟩;have k:=ak l)
    go_ret;exact⟨⟨n,z,by rw[ag j];simp⟩,c.trans<|k.mono c.size⟩
   |false=>
    rw[hp]at e;have j:=ak<|r.trans hp;go_wp2_with(go_at_fn b;refine e.mono ?_;rintro u T⟨rfl,l⟩;have k:=ak l)
    go_roundw
    .exact⟨n+1,i,dM,c.trans<|k.mono c.size,j⟩
    .simp[intOf];omega
  .have e:n=y f:=U;have g:=ak (show f.any p=bD by rw[<-m,e,cQ]);have:((n:Y)<(y f:Y))=False:=by simp;omega
   go_wp2;go_ret;exact⟨⟨-1,z,by rw[ag g];simp⟩,c⟩
def Mu(e:Array ae)(c:eD)(s:Y->eN)(m:Enters bN b)(g:Row a 1 d (y c) (c.map<|Value.int .u64))(q:∀r,cN d=M r->r<G (H a))(p:y c<=40000000000)(n:∀u∈c,∀W,gC (G<|H a) a W->cR bN b (#[bw u]++e) W λi k=>i=aN (aO<|s u)/\gC (G<|H W) W k):cR bN 144 #[d,.func (.func b) #[] e] a λi t=>i=aN (aO<|c.any s)/\gC (G<|H a) a t:=by
 have h:=Wb e c s m g q p n;let⟨x,w,f⟩:=cG g;subst f;go_in
 go_wp2_with(go_at_call 210;refine h.mono ?_;rintro i v⟨⟨r,rfl,o⟩,l⟩;have j:=ak o;have HB:=ak l)
 go_ret;rw[<-ag j];exact⟨z,HB⟩
def OC(f:R)(m:Y)(E:f<y i)(C:0<f)(F:y i<=40000000000)(r:jP a b i[f])(v:fE a c d 103)(s:lF a d i)(o:fE a k (ay f) 3):cR bN 143 #[bw m,aJ b,aJ c,aJ k] a λB w=>B=aN (aO<|decide (i[f].f<=m)&&decide (m<(i[f-1]'U).f))/\w=a:=by
 let⟨_,_,_,K⟩:=r.bU;have:=v.u;have:=o.u;let⟨p,u⟩:∃p,f=p+1:=⟨f-1,U⟩;subst u;obtain⟨D,⟨rfl,n⟩|⟨A,e,l,rfl,t,q⟩⟩:=s;omega;have g:p<y i:=U;have:bA a (X A<|e+p*4+3)=M (bw i[p].f):=by rw[bJ];exact q _ _ (fH i p g).2.2.2
 have:(0:Y)<=(p:Y):=U;have:(p:Y)<(y i:Y):=U;have:IntKind.i64.wrap (p:Y)=(p:Y):=by rw[bR];omega
 have:wrap64 (p:Y)=(p:Y):=by unfold wrap64;omega
 simp only[Nat.add_sub_cancel];generalize i[p].f=L at*;generalize i[p+1].f=x at*;by_cases j:x<=m;(.simp only[j,zk,Bool.true_and];(go_in);go_wp2;go_ret;simp_all);simp only[j,Ch,zo];(go_in);go_wp2;go_ret;simp_all
structure tZ(W0:Z)(S:fB)(bl:R)(lst:dB)(B:fB)(W:Z):Prop where
 bV:∃v,fE W bl v 103/\fD W (G<|H W0) 223 4 v (y lst) (bu lst)/\∀k,B k↔k=bl\/cN v=M k
 aA:I (λk=>k=bl\/S k) W0 W
def tZ.lt{S B:fB}(h:tZ a S c i B e){n0:R}(o:n0<=c)(p:n0<=G (H a)):∀k,B k->n0<=k/\k<G (H e):=by
 intro k j;let⟨v,n,d,g⟩:=h.bV;obtain m|m:=(g k).1 j;grind
 have:=d.lt k m;grind
def tZ.gQ{S B T:fB}(h:tZ a S b i B e)(c:I T e P)(j:∀k,T k->¬B k/\(S k\/G (H a)<=k)):tZ a S b i B P:=by
 let⟨v,d,f,g⟩:=h.bV;exact⟨⟨v,(c.A _ (az d) aI).trans d,c.aZ f aI,g⟩,h.aA.aj c aI⟩
def tZ.jj{f:Z}{B:fB}{c xs:dB}(h:tZ a W b c B e)(r:b<G (H a))(E:fE e b d 103)(C:I aC e P)(A:fm P f d w)(j:fD f (G<|H a) 223 4 w (y c+y xs) (bu c++bu xs)):∃u,tZ a W b (c++xs) u (cP f (X b 0) w)/\I B e (cP f (X b 0) w)/\(∀k,u k->B k\/G (H e)<=k):=by
 let⟨n,q,D,K⟩:=h.bV;obtain rfl:n=d:=by have F:=q.symm.trans E;simpa using F
 have v:I (λk=>cN n=M k) e f:=(C.aT cY).aj (I.eF (S:=λk=>cN n=M k) A.dF<|λk g=>J g)<|λk g=>J g;have s:∀k,k<G (H a)->¬cN n=M k:=λk g o=>bP<|(D.lt k o).1;have t:fE f b n 103:=(v.A _ (az q)<|s _ r).trans q;have l:I B e (cP f (X b 0) w):=(v.aT (T:=B) aI).aL _ _ _ aI;refine⟨λk=>k=b\/cN w=M k,⟨⟨w,t.gq _,?_,λk=>th⟩,?_⟩,l,?_⟩;rw[ai,ie];exact j.kept (eG f _ _ _) (by right;intro o;have:=(j.lt _ o).1;omega);refine h.aA.aj l<|λk g=>?_;grind
 rintro k(o|o);(grind);obtain F|⟨N,F,L⟩:=A.f;(grind);rw[F]at o;cases o;have:=C.D;grind
end
section
open Shelf
attribute [local go_sem] Oper.semAt_some
theorem fh{w:Z}{g base' m a n:R}(h:fD w g m a d n Q)(k:base'<=g):fD w base' m a d n Q:=by
 let⟨j,e⟩:=h;refine⟨j,?_⟩;obtain e|⟨r,c,i,o,b,p,q⟩:=e;exact J e;exact bj ⟨r,c,i,o,aR k b,p,q⟩
def OD(a:eD)(l:dB):y (gu a l)<=y l:=(oE a l).length_le
def lF.aA{S:fB}{w w':Z}{l:dB}(h:lF w d l)(a:I S w w')(c:∀k,cN d=M k->¬S k/\k<G (H w)):lF w' d l:=a.bV h c
def lF.Gg(h:lF a d i)(l:0<y i):∃f b c,d=bX f b (y i) c/\y i<=c:=by
 obtain⟨j,⟨rfl,g⟩|⟨f,b,c,rfl,e,k⟩⟩:=h;omega;grind
def yw(b:eD)(h:lF a d i)(hs:yO i)(hl:y i<=3000000000)(hm:Row a 1 w (y b) (b.map<|Value.int .u64))(em:y b<=1000)(hv:∀k,cN d=M k->k<G (H a))(ad:∀k,cN w=M k->k<G (H a)):cR bN 94 #[d,w] a λcl w'=>∃v',cl=aN v'/\fD w' (G<|H a) 223 4 v' (y<|gu b i) (bu<|gu b i)/\I aC a w':=by
 let⟨i0,bE,ce,ch,cj⟩:=cZ oO;let⟨dv,T,cc⟩:=cG h;let⟨mx,mc,bT⟩:=cG hm;have cT:=CP d dv (y i) T cc;subst bT;subst cc;refine(ew (n:=3)).1 ?_;refine callsIn_of_wp_marks func94 z trivial ?_ z;simp only[ntmps94,gm,bK,eE,jZ,Nat.reduceSub,fc,fa,gp,fG,ep,dt];gi_wp2_with(refine⟨trivial,?_⟩;gi_at_call 142;refine(ew.2<|cT _).mono ?_;rintro cl w1⟨rfl,rfl⟩)
 let⟨l,v⟩:∃l,(dw (dw (dw a<|aK #[am mx (y b) mc] 208)<|aK #[aF] 103)<|aK #[am dv (y i) T] 103)=l:=⟨_,rfl⟩;have:G (H l)=G (H a)+3:=by rw[<-v];simp
 have bh:I aC a l:=v▸((cI aC a).aE _).aE _;have cx:fE l (G<|H a) (am mx (y b) mc) 208:=by rw[<-v];grind[fE.aE,aQ]
 have cB:fE l (G (H a)+1) aF 103:=v▸fE.aE (aQ _ ar) _;have cM:fE l (G (H a)+2) (am dv (y i) T) 103:=v▸aQ _ ar;have aV:lF l (am dv (y i) T) i:=h.aA bh<|λk c=>⟨id,hv k c⟩;have hA0:tZ l (λk=>k=G (H a)+2) (G (H a)+1) (gu b<|ji []) (λk=>k=G (H a)+1) l:=⟨⟨_,cB,ct _ _ _ _,λk=>by simp[cN]⟩,I.bI _ _⟩;rw[v];refine tJ (m:=3) (arg:=IZ<|am dv (y i) T) (V:=CX) (n0:=G<|H a) (gf:=209) (lb:=#[aJ<|G (H a)+2]) (l:=pK 0<|jh i) (S:=λk=>k=G (H a)+2) ?geval (enters_of func209 aH z) (λ_=>rfl) (yC (G<|H a) 2 cM aV hv U U) trivial U (λk c=>U) (λe bl bk=>tZ l (λk=>k=G (H a)+2) (G (H a)+1) (gu b<|ji e) bl bk) (λ_ _ _ _=>False) (λk=>k=G (H a)+1) hA0 (λk c T=>U) ?lt ?st ar ?body ?done ?stop;rfl;exactλe bl bk W=>W.lt U U;(case st=>intro e bl bk g j W ht f;refine W.gQ ht<|λk c=>⟨(f k c).1,?_⟩;obtain T|T|T:=(f k c).2;exact J T;exact T.elim;exact bj T);(case stop=>grind)
 .rintro lr e⟨cm,m⟩bl bk el cs dr F W _;let⟨hn,eo,c⟩:=LP hs F;have:0<y m:=iZ.2 c.ne;have:cm+y m+y eo=y i:=by rw[c.dq,hn];simp;omega
  let⟨cn,u,eb,hx,ek⟩:=aV.Gg U;cases hx;have aa:=CY aV c.dq c.ne;rw[<-hn]at aa;unfold IZ;unfold By at aa|-;simp only at aa|-;have:∀k,bl k->k<G (H bk):=λk c=>(W.lt (n0:=G<|H a) U U k c).2;let⟨HA,HK,HP,HN⟩:=jr W c F hn;clear W F c hn;gi_wp2;refine⟨(cI _ _),λW2 cb=>?_⟩;have bg:I (λk=>k=lr) bk W2:=(cI (λk=>k=lr) bk).aj cb<|λk c=>J c;have hA2:=HA.gQ bg<|λk c=>aI;have bc:fE W2 (G<|H bk) (bX cn (u+cm*4) (y m)<|T-cm) 103:=(cb.A _ ar U).trans<|aQ _ z;have:=bc.u;have:=bg.D;have cv:G (H bk)<G (H W2):=az bc;have:cn<G (H a):=hv cn z;gi_wp2;gi_loopw [15] (λc wr=>∃(j:R)(Q:fB),c=ay j/\j<=y m/\tZ l (λk=>k=G (H a)+2) (G (H a)+1) (gu b (ji e)++gu b (m.take j)) Q wr/\I bl W2 wr/\(∀k,Q k->bl k\/G (H W2)<=k)) (λc _=>y m-(intOf c).toNat)
  .exact⟨0,bl,z,bQ _,by simpa[gu,nR]using hA2,I.bI _ _,λk c=>J c⟩
  .obtain⟨j,Q,rfl,ei,hA1,o,aU⟩:=hrel;by_cases s:j<y m
   .have ba:lF wr (bX cn (u+cm*4) (y m)<|T-cm) m:=aa.aA hA1.aA<|λk c=>(show cn=k by simpa[cN]using c)▸U;have bx:fE wr (G<|H a) (am mx (y b) mc) 208:=(hA1.aA.A _ U U).trans cx;have dc:Row wr 1 (am mx (y b) mc) (y b) (b.map<|Value.int .u64):=hA1.aA.bV (bh.bV hm<|λk c=>⟨id,ad k c⟩)<|λk c=>zY<|ad k c;have ab:fE wr (G<|H bk) (bX cn (u+cm*4) (y m)<|T-cm) 103:=(o.A _ cv aI).trans bc;let⟨lv,t,A,bL⟩:=hA1.bV;let⟨ex,ec,bd⟩:=aM A;have ej:=t.u;have:=t.bS;have:=bx.u;have:=ab.u;obtain⟨ed,⟨bq,cu⟩|⟨b',ds,dk,bq,cu,n⟩⟩:=id ba
    .omega
    cases bq;have ac:=fH m j s;have g0:=n _ _ ac.1;have g1:=n _ _ ac.2.1;have g2:=n _ _ ac.2.2.1;have g3:=n _ _ ac.2.2.2;simp only[<-bJ]at g1 g2 g3;have e1:(j:Y)<(y m:Y):=U;have:(0:Y)<=(j:Y):=U;have:=az bx;have db:=az t;have dd:=az ab;have bv:cn<G (H wr):=cA _ _ g0;have:y (gu b (ji e)++gu b (m.take j))+1<=20000000000:=by
     have q1:=OD b<|ji e;have q2:=OD b<|m.take j;have q3:y (ji e)=cm:=HN.symm;have:=uj j m;rw[ai];omega
    have ca:=VD (ms:=b) HK.bM s;have B:=ak (show∀(r q:Z)v5,I aC wr r->fm r q lv v5->fD q (G<|H l) 223 4 v5 (y (gu b (ji e)++gu b (m.take j))+1) (bu (gu b (ji e)++gu b (m.take j))++bu [m[j]])->wanted b m j s=cz->∃Q,tZ l (λk=>k=G (H a)+2) (G (H a)+1) (gu b (ji e)++gu b (m.take<|j+1)) Q (cP q (X (G (H a)+1) 0) v5)/\I bl W2 (cP q (X (G (H a)+1) 0) v5)/\(∀k,Q k->bl k\/G (H W2)<=k)fromλr q v5 ht D C p=>by
     let⟨x,q1,q2,q3⟩:=hA1.jj (xs:=[m[j]]) U t ht D C;rw[ca,fV p,<-cw];refine⟨x,q1,o.aj q2 aU,λk c=>?_⟩;grind[Nat.le_trans,I.D])
    have av:=ak (show∀(r:Z),I aC wr r->wanted b m j s=bD->tZ l (λk=>k=G (H a)+2) (G (H a)+1) (gu b (ji e)++gu b (m.take<|j+1)) Q r/\I bl W2 r fromλr ht p=>by
     rw[ca,fM (by simp[p]),eu];exact⟨hA1.gQ ht cY,o.t ht⟩)
    let⟨bm,bo,al,ea,cr,ao,an,dx,dT⟩:=Hp hA1 o aU ba dc t A ab n;generalize dn:gu b (ji e)++gu b (m.take j)=f at*;subst bd;have co:=ak (show 0<j->∀a d:Z,I aC wr a->gC (G<|H a) a d->fE a (G<|H wr) (ay j) 3->jP a (G (H wr)+1) m[j]->∀ck,cR bN 143 (#[bw ck]++#[aJ<|G (H wr)+1,aJ<|G<|H bk,aJ<|G<|H wr]) d λcl b=>cl=aN (aO<|decide (m[j].f<=ck)&&decide (ck<(m[j-1]'U).f))/\gC (G<|H d) d b fromλh0 a d C x q1 q2 ck=>by
     apply(OC j ck s h0 U (q2.dD x (az q2)) ((x.block _ aI).trans ((C.A _ dd id).trans ab)) ((ba.aA C (λk c=>⟨id,(show cn=k by simpa[cN]using c)▸bv⟩)).dD x (λk c=>(show cn=k by simpa[cN]using c)▸au bv C.D)) ((x.block _ (az q1)).trans q1)).mono;grind[Below.refl])
    have bp:=ak<|show wanted b m j s=(decide (j=0)||b.any (λck=>decide (m[j].f<=ck)&&decide (ck<(m[j-1]'U).f)))from rfl;generalize eg:m[j]=g9 at*;let⟨O,P,N,L⟩:=g9;simp only at g0 g1 g2 g3;obtain h0|h0:=fN j
    .subst h0;simp only[xW,ma]at g0 g1 g2 g3;have g:I aC wr (dw (dw wr<|aK #[ay 0] 3)<|aK #[aw O,aw P,aO N,bw L] 223):=(cI _ _).aE _;have C:=ak<|g.aZ an<|λ_ _ T=>T;have x:=ak (show∀q:Z,(dw (dw (dw wr<|aK #[ay 0] 3)<|aK #[aw O,aw P,aO N,bw L] 223)<|aK #[aw O,aw P,aO N,bw L] 223).grownBy q (cN<|am ex (y f) ec)->bA q (X (G (H a)+1) 0)=M (am ex (y f) ec)/\iH q (X (G (H a)+1) 0)=bD fromλq hg=>by
      have hb:fE q (G (H a)+1) (am ex (y f) ec) 103:=(hg.block _ (by have:=az ao;simp;omega) (λcl=>bP ((an.lt _ cl.symm).1))).trans (fE.aE (fE.aE (fE.aE ao _) _) _);exact⟨hb.u,hb.bS⟩)
     gi_wp2_with fail
     refine⟨trivial,?_⟩;gi_wp2_with(first
      |(gi_at_builtin;refine gl _ z (.tmp 28) (.tmp 30) 103 z (G (H l)) 223 i0 yt 4 48 underlying103 bE ce ch cj z cg (.slice ex (y f) ec) (y f) (bu f) z (bC C (.cells #[.string O,.string P,.bool N,.int .u64 L] 223)) (X (G (H wr)+1+1) 0) 1 1 (bu [⟨O,P,N,L⟩]) z (by rw[ic];rfl) (AV ⟨O,P,N,L⟩ _ ar) (DS _) U U dW ?_;intro v5 q E K;let⟨x5,c5,bi⟩:=aM E;subst bi;have D:=x q K.dF;let⟨ax,bb⟩:=D;have ap:=ak E;have aD:=ak K))
     refine⟨⟨1,?_⟩,by simp[intOf];omega⟩;let⟨B2,r1,r2,r3⟩:=B _ q _ ((g).aE _) aD ap (by rw[ag bp];simp);grind
    .have:((j:Y)==0)=bD:=by simp;omega
     let⟨r,x⟩:∃r,dw (dw wr<|aK #[ay j] 3) (aK #[aw O,aw P,aO N,bw L] 223)=r:=⟨_,rfl⟩;have g:I aC wr r:=x▸(cI _ _).aE _;have D:=Mu #[aJ<|G (H wr)+1,aJ<|G<|H bk,aJ<|G<|H wr] b _ (enters_of func143 aH z) (g.bV cr<|λk c=>⟨id,bP<|ad k c⟩) (λk c=>gV (ad k c) g.D) U<|λck _ d a=>co h0 r d g a (by rw[<-x];grind[fE.aE,aQ]) (x▸aQ _ ar) ck;have cd:=ag bp;rw[show decide (j=0)=bD by simp;omega,Bd]at cd;rw[<-cd]at D;have br:jP r (G (H wr)+1) ⟨O,P,N,L⟩:=x▸aQ _ ar;have bs:fE r (G (H a)+1) (am ex (y f) ec) 103:=(g.A _ db id).trans ao;have:=g.D;cases p:wanted b m j s with
     |true=>
      rw[p]at D;subst x;gi_wp2_with fail
      refine⟨trivial,(CallsIn.inRound lr<|ew.2 D).mono ?_⟩;rintro cl w4⟨rfl,C⟩;have bf:=g.t<|I.p (S:=aC) C;have n:=br.dD C<|az br;have bb:fE w4 (G (H a)+1) (am ex (y f) ec) 103:=(C.block _<|az bs).trans bs;let⟨z0,z1,z2,z3⟩:=n.bU;simp only at z0 z1 z2 z3;have:=bb.u;let⟨bn,ax,cp⟩:=eU (bf.aZ an<|λ_ _ T=>T) bf bb;have:=bf.D;have:=az n;have:=az bb;generalize G (H wr)+1=en at*;gi_wp2_with(first
       |(gi_at_builtin;refine gl _ z (.tmp 28) (.tmp 30) 103 z (G (H l)) 223 i0 yt 4 48 underlying103 bE ce ch cj z cg (.slice ex (y f) ec) (y f) (bu f) z (bC bn (.cells #[.string O,.string P,.bool N,.int .u64 L] 223)) (X (G (H w4)) 0) 1 1 (bu [⟨O,P,N,L⟩]) z (by rw[ic];rfl) (AV ⟨O,P,N,L⟩ _ z) (DS _) U U dW ?_;intro v5 q E K;let⟨x5,c5,bi⟩:=aM E;subst bi;have bt:fE q (G (H a)+1) (.slice ex (y f) ec) 103:=(K.dF.block _ dW (λcl=>bP ((bn.lt _ cl.symm).1))).trans (cp.aE _);have:=bt.u;have:=bt.bS;have ap:=ak E;have aD:=ak K))
      refine⟨⟨j+1,?_⟩,by simp[intOf];omega⟩;let⟨B2,r1,r2,r3⟩:=B _ q _ (ax.aE _) aD ap p;exact⟨B2,dM,U,r1,r2,r3⟩
     |false=>
      rw[p]at D;subst x;gi_wp2_with fail
      refine⟨trivial,(CallsIn.inRound lr<|ew.2 D).mono ?_⟩;rintro cl w4⟨rfl,C⟩;have ax:=ak<|g.t<|I.p (S:=aC) C;gi_wp2;refine⟨⟨j+1,?_⟩,by simp[intOf];omega⟩;let⟨r1,r2⟩:=av _ ax p;exact⟨Q,dM,U,r1,r2,al⟩
   .have f:j=y m:=U;have:((j:Y)<(y m:Y))=False:=by simp;omega
    let⟨bm,bo,al⟩:=eU hA1 o aU;gi_wp2;have o:=ag bo;have hA1:=ag bm;refine⟨trivial,Q,?_,(bg.aT ar).aj o aI,o.A lr U cs,λk c=>(al k c).imp_right<|λT=>U⟩;show tZ l _ _ (gu b<|ji<|e++[(cm,m)]) Q wr;rwa[vG,(ag HK).A,show gu b m=gu b (m.take j)by rw[f,cQ]]
 (case done=>intro D bl bk m W g _ j;obtain⟨lv,t,A,bL⟩:=W.bV;rw[CS]at A;obtain⟨ex,ec,bd⟩:=aM A;have:=t.u;have:=az j;subst bd;gi_wp2;have f:=iB bk D<|.deferred dE;refine⟨ar,J ⟨_,_,z,run_takeDeferred j,?_⟩⟩;refine⟨_,gG z _ _ _,?_⟩;have hx:=f.aZ A<|λk c T=>g<|(bL D).2 aI;refine⟨_,z,fh hx U,bh.aj (W.aA.aj f aI) ar⟩)
end
def WC(c:dB)(x:E):iG (c++[x])=iG c++yI x:=by simp[iG]
def Ad(c d:dB):iG (c++d)=iG c++iG d:=by simp[iG]
def Uh{c:dB}(h:∀x∈c,x.Good):y (iG c)<=35*y c:=by
 induction c with
 |nil=>simp[iG]
 |cons x r d=>
  have:=Ac<|h x ar;have:=d (λa b=>h a<|by simp[b]);have e:iG (x::r)=yI x++iG r:=by simp[iG]
  rw[e,ai,bK];omega
def GG(h:lF a d i)(hv:∀ab,cN d=M ab->ab<G (H a))(hg:∀aU∈i,aU.Good)(hl:y i<=1000):cR bN 253 #[d] a λac w'=>∃v',ac=aN v'/\fy w' (G<|H a) v' (iG i)/\I aC a w':=by
 let⟨aU,al,aa⟩:=cG h;subst aa;go_in
 go_wp2;go_loopw [3,8] (λc b wr=>∃g:R,g<=y i/\b=ay g/\fy wr (G<|H a) c (iG<|i.take g)/\I aC a wr) (λ_ b _=>y i-(intOf b).toNat)
 exact⟨0,bQ _,z,by simpa[iG]using fy.kj _ _,I.bI _ _⟩
 .obtain⟨g,hi,rfl,v,C⟩:=hrel;let⟨B,A,t⟩:=aM v;by_cases m:g<y i
  .have l:=hg _<|aB m;obtain⟨ao,⟨w,K⟩|⟨ad,u,an,w,K,L⟩⟩:=h
   .omega
   cases w;have O:ad<G (H a):=hv ad z;have j:∀a b,(bu i)[a]?=M b->bA wr (X ad<|u+a)=M b:=λa b c=>C.u (L a b c) id O;have k:=fH i g m;have g0:=j _ _ k.1;have g1:=j _ _ k.2.1;have g2:=j _ _ k.2.2.1;have g3:=j _ _ k.2.2.2;simp only[<-bJ]at g1 g2 g3;have av:y (iG<|i.take g)<=35000:=by
    have:=Uh (c:=i.take g)<|λF a=>hg F<|ix a;have:=uj g i;omega
   have E:=ak (show iG (i.take<|g+1)=iG (i.take g)++yI i[g]by rw[aG m,WC]);have ax:=C.D;have c:cN (am B (y<|iG<|i.take g) A)≠M (G<|H wr):=λac=>by rw[<-t]at ac;have:=(v.lt _ ac).2;omega
   have e1:(g:Y)<(y i:Y):=U;have e2:(0:Y)<=(g:Y):=U;generalize iG (i.take g)=s at*;subst t;generalize i[g]=F at*;let⟨q,r,p,f⟩:=F;simp only at g0 g1 g2 g3;have k1:=l.f;have k2:=l.l;have k3:=l.b0;have k4:=l.b1;simp only at k1 k2 k3 k4;have N:fy (dw wr<|aK #[aw q,aw r,aO p,bw f] 223) (G<|H a) (am B (y s) A) s:=bC v _;go_wp21;go_region_held3(λg=>bA g (X (G<|H wr) 0)=M (aw q)/\bA g (X (G<|H wr) 1)=M (aw r)/\bA g (X (G<|H wr) 2)=M (aO p)/\bA g (X (G<|H wr) 3)=M (bw f)) (first|assumption|go_keep) (first
    |(go_at_call 224;refine(rh (n6:=G<|H a) (v:=(.slice B (y s) A)) (bs:=s) f (w:=(dw wr<|.cells #[.string q,.string r,.bool p,.int .u64 f] 223).drew) (N.df z) dW U k3 k4).mono ?_;rintro ac x⟨v1,rfl,Q,b⟩;have n:cN v1≠M (G<|H wr):=b.ne c ar;have o:bA x (X (G<|H wr) 0)=M (.string q)/\bA x (X (G<|H wr) 1)=M (.string r)/\bA x (X (G<|H wr) 2)=M (.bool p)/\bA x (X (G<|H wr) 3)=M (.int .u64 f):=⟨b.u ar c,b.u ar c,b.u ar c,b.u ar c⟩;have aD:G (H wr)<G (H x):=(by have:=b.dF.size;simp at this;omega);have O1:=ak Q;have W1:=ak b)
    |(go_at_call 226;refine(TQ (G (H a)) v1 (s++le 8 f) ⟨q,r,p,f⟩ _ ?_ U (by simp[dh];omega) aI aI).mono ?_;exact O1.df z;rintro ac D⟨v2,rfl,T,e⟩;have ap:bA D (X (G (H wr)) 0)=M (.string q)/\bA D (X (G (H wr)) 1)=M (.string r)/\bA D (X (G (H wr)) 2)=M (.bool p)/\bA D (X (G (H wr)) 3)=M (.int .u64 f):=⟨e.u o.1 n,e.u o.2.1 n,e.u o.2.2.1 n,e.u o.2.2.2 n⟩;have O2:=ak T;have W2:=ak (W1.aj e)))
   go_wp2;have hW:=ag W2;have V:I aC a (dw wr<|aK #[aw q,aw r,aO p,bw f] 223):=C.aE _;have W:I aC a (dw wr<|aK #[aw q,aw r,aO p,bw f] 223).drew:=V.aj (S:=aC) ⟨z,z,z,aq _,λ_ _ _=>rfl⟩<|λ_ al=>J al;refine⟨⟨g+1,m,dM,?_,W.aj (I.eF (S:=λab=>cN (am B (y s) A)=M ab) hW.dF<|λab P=>J P)<|λab P=>bj (v.lt ab P).1⟩,by simp[intOf];omega⟩;rw[ag E];have:=ag O2;rwa[cw]at this
  .have b:g=y i:=U;have:((g:Y)<(y i:Y))=False:=by simp;omega
   subst t;rw[b,cQ]at v|-;go_wp2;go_ret;exact⟨_,z,v,C⟩
section
open Shelf
attribute [local go_sem] Oper.semAt_some
section
variable{F:Fence}{n:R}{P:Program}(w:Z){b:Array Oper}{rest:cy Oper}{o:Oper}{a:Act}{Q:Exit->Act->Z->Prop}
theorem Fh(k:o.guard=dE)(g:Operand)(t:TypeId)(c:o.op=Op.range t g)(x v:TypeId)(m:P.underlying t=M (.map x v))(i:R)(p:gZ)(l:a.eval g=.map (M i))(h:kO w i p)(j:∀d,su d i (G<|H w) p p->w.grownBy d dE->G (H d)=G (H w)+1->wpListIn F n P b Q rest (a.put o.dst<|aJ<|G<|H w) d):wpListIn F n P b Q (o::rest) a w:=by
 refine zj k λu f=>?_;let⟨d,e,q,r,s⟩:=Rw m h;unfold Oper.wpIn;refine⟨?_,?_⟩;simp[Oper.about,c];rw[Oper.semAt_plain F _ _ (by rw[c];grind)];simp[execOp,c,l,e,Result.andThen];exact f _ _<|j d q r s
theorem FT(q:o.guard=dE)(l:Operand)(e:o.op=Op.next l bD)(s r:R)(t left:gZ)(QG:a.eval l=aJ r)(h:su w s r t left)(f:left=[]->wpListIn F n P b Q rest (a.put o.dst<|de #[aO bD]) w)(k:∀g p d i,left=g++p::d->su i s r t (g++d)->w.grownBy i (M r)->G (H i)=G (H w)->(Instr.entry<|aJ r).run P i=.ok (de #[ay p.1,p.2]) i->wpListIn F n P b Q rest (a.put o.dst<|de #[aO cz,ay p.1,p.2]) i):wpListIn F n P b Q (o::rest) a w:=by
 refine zj q λu j=>?_;unfold Oper.wpIn;refine⟨?_,?_⟩;simp[Oper.about,e];rw[Oper.semAt_plain F _ _ (by rw[e];grind)];obtain⟨m,c⟩|⟨g,p,d,i,C,c,v,x,A,B⟩:=Vc (P:=P) h o.type;simp[execOp,e,QG,c,Result.andThen];exact j _ _<|f m;simp[execOp,e,QG,c,Result.andThen];exact j _ _ aI
end
def O7(v:Y):Array ae:=#[bw v]
def zy(m:gZ)(c:eD):Prop:=m.map (·.2)=c.map (Value.int .u64)
theorem KA(n0 ce m E:R)(br:gZ)(x:eD)(w:Z)(hb:fE w m (.map<|M E) 94)(hm:kO w E br)(bq:zy br x)(bf:E<n0)(bl:n0<=G (H w)):T6 O7 CX n0 ce 213 #[aJ m] (λca _=>∃ch,(ca++ch).Perm x) (λca=>ca.Perm x) (λk=>k=m) w:=by
 intro lr cd Jx cc ad hs hD hJ bd T V hY;have bx:bA ad (X m 0)=M (.map<|M E):=hs.u (J z) hb.u;have bk:kO ad E br:=hm.dU<|hs.2 E<|J ⟨bf,id⟩;refine tf func213 z trivial ?_ z;simp only[ntmps213,gm,bK,eE,jZ,Nat.reduceSub,fc,fa,gp,fG,ep,dt]
 gi_wp2_with(first
  |(refine Fh _ z _ 94 z 3 104 underlying94 E _ z bk ?_;intro w0 N bg bT;have al:=ak N;have A:=ak bg))
 have u:=hs.1;have bL:m<G (H ad):=au (az hb) u;have aa:I aC ad w0:=I.eF A ar;have bs:=T _ _ _ hJ;gi_loopg [] (y br) (λk wr=>∃(c:eD)(left:gZ)(vl:eD)(r:fB),y left=k/\zy left vl/\(c++vl).Perm x/\su wr E (G<|H ad) br left/\cd c r wr/\(∀k,k=m->¬r k)/\kZ CX n0 (λk=>k=m) w wr/\¬r (G<|H ad))
 refine⟨[],br,x,cc,z,bq,py _,al,V _ _ _ _ _ hJ aa cY,bd,hs.aj<|aa.bM (aR bl u) aI cY,aI⟩;(.let⟨c,left,vl,r,bi,g,v,bh,bc,p,e,aV⟩:=hrel;have bE:bA wr (X m 0)=M (.map<|M E):=e.u (J z) hb.u;let⟨C,B,an,t⟩:=jr g v bh bc;let⟨av,s,ap⟩:=eU e aV bi;(gi_wp2_with(first|(refine FT _ z _ z E (G<|H ad) _ _ z an ?_ ?_)));(.intro d;subst d;(have f:vl=[]:=by have:=ag C;unfold zy at this;simp_all);subst f;gi_wp2;exact xV (jb z _ _ _) z ⟨⟨_,z⟩,J ⟨c,r,dV<|ag B,t,trivial⟩⟩);(.intro j pk pv i w1 hl O S W bt;subst hl;have g:=ag C;unfold zy at g;rw[bz,bO]at g;obtain⟨va,vd,rfl,bn,bp⟩:=jy.1 g.symm;obtain⟨cb,vc,rfl,hv,bo⟩:=pu.1 bp;simp only at hv;subst hv;have ab:I (λk=>k=G (H ad)) wr w1:=I.eF S<|λk q=>aI;let⟨aD,d,aU⟩:=eU ab O (show zy (j++i) (va++vc)from by unfold zy;rw[bz,bz,bn,bo]);have l:=ak<|show((c++[cb])++(va++vc)).Perm x from List.Perm.trans (by rw[cw];grind) B;have ba:=V _ _ _ _ _ t ab (λk q=>by subst q;exact⟨s,bj<|bj u⟩);have D:=ak<|hY c cb r w1 ⟨va++vc,l⟩ ba trivial;unfold O7 at D;let⟨fn,bv,ac,body,hy,hR⟩:=ag D;gi_wp2;refine⟨(λK=>(by cases K)),hR.mono ?_⟩;rintro cj W3(⟨rfl,_,B3,bb,f,L⟩|⟨rfl,hx⟩);(.have ao:=ak bb;have ax:=ak f;gi_wp2;(gi_roundg (y<|j++i));(case measure=>have:=ag ap;grind);have f:=ag ax;have e:=ag av;have:G (H wr)=G (H w1):=W.symm;have bm:=d.lt;have:=d.ne;have:∀k,r k->n0<=k:=λk q=>(T _ _ _ t k q).1;have:=e.1;refine⟨c++[cb],j++i,va++vc,B3,z,aU,l,d.qR (f.A E U aI)<|f.A _ bm s,ao,λk q K=>?_,?_,λK=>?_⟩;(obtain K|K:=L k K;exact p k q K;grind);refine(e.aj<|aD.bM U aI aI).aj<|f.bM U (λk q=>⟨U,p k q⟩) aI;obtain K|K:=L _ K;exact s K;omega);have HX:=ak hx;gi_wp2;exact ci (jb z _ _ _) z ⟨⟨_,z⟩,bj ⟨_,HX⟩⟩))
end
def tq{P:Program}(w:Z)(k A B c:TypeId)(e m o b g:R)(n:Addr)(d i:R)(a:Array ae)(D:TypeId)(f:iE)(x:P.underlying k=M (.slice c))(u:(P.info? c).map (·.size)=M e)(q:w.heap[m]?=M (aK a D (0,0)))(t:y f=Nat.min d b*e)(h:∀C v,f[C]?=M v->bA w (n.add C)=M v)(l:o+y f<=a.size)(p:∀v∈f,v.oneCell'=cz):(Builtin.copy_ #[k,A] B #[bX m o b g,am (M n) d i]).run P w=.ok (goInt<|Nat.min d b) (w.setRow m (a.toList.take o++f++a.toList.drop (o+y f)).toArray):=by
 have s:=run_loadCells_list (P:=P) w n f h;have j:=run_storeCells_at P m o D f 0 a w q aI p;cases hq:P.info? c with
 |none=>simp[hq]at u
 |some E=>
  have r:E.size=e:=aI;simp[Builtin.copy_,eV x,Builtin.lenOf,Builtin.firstCells,sizeOf,typeInfo,hq,r,<-t,s,j]
def Ey(w:Z)(g:R)(a:Array ae):I (λk=>k=g) w (w.setRow g a):=⟨rfl,rfl,rfl,ar,λk _ b=>uu w g k a b⟩
theorem Zi{a d:iE}(j:Q.take (b*4)=a)(k:y a=b*4)(l:c<=b)(i:y d=4)(e:(b+1)*4<=y Q):(((Q.take ((c+1)*4)++a.drop (c*4)++Q.drop ((c+1)*4+y (a.drop<|c*4))).take (c*4)++d++(Q.take ((c+1)*4)++a.drop (c*4)++Q.drop ((c+1)*4+y (a.drop<|c*4))).drop (c*4+y d)).take<|(b+1)*4)=a.take (c*4)++d++a.drop (c*4):=by
 have f:y (Q.take<|(c+1)*4)=c*4+4:=by rw[dX];omega
 have g:(Q.take ((c+1)*4)++a.drop (c*4)++Q.drop ((c+1)*4+y (a.drop<|c*4))).take (c*4)=a.take (c*4):=by rw[cw,jQ U,zl,<-j,zl];grind
 have h:(Q.take ((c+1)*4)++a.drop (c*4)++Q.drop ((c+1)*4+y (a.drop<|c*4))).drop (c*4+y d)=a.drop (c*4)++Q.drop ((c+1)*4+y (a.drop<|c*4)):=by rw[cw,i,<-f,pw]
 rw[g,h,<-cw,mR dW]
def YD(l:dB):∀u∈bu l,u.oneCell'=cz:=by
 intro u a;induction l with
 |nil=>cases a
 |cons x r b=>
  rw[show x::r=[x]++r from rfl,ie,aP]at a;grind[DS]
def Ti(h:lF e d i)(O:y i<=1000000000)(k:∀s,cN d=M s->s<G (H e)):cR bN 189 #[d] e λN u=>∃t,N=aN t/\fD u (G<|H e) 223 4 t (y i) (bu i)/\gC (G<|H e) e u:=by
 let⟨L,E,p,q,r⟩:=cZ oO;obtain⟨x,⟨rfl,w⟩|⟨v,b,j,rfl,K,C⟩⟩:=h;(.obtain rfl:i=[]:=bG w;have D:∀e:Z,(binOp .eql 103 aF aF).run bN e=.ok (aO cz) e:=λ_=>rfl;(go_in);go_wp2;go_ret;exact⟨_,z,ct _ _ _ _,Below.refl _ _⟩)
 .have A:v<G (H e):=k v z;have m:fD (dw e<|aK #[] 223) (G<|H e) 223 4 (bX (G<|H e) 0 0 0) 0 []:=World.ownsRow_lit e #[] 0 (aq _) cg z;have D:∀(e:Z)a n c,(binOp .eql 103 (am (M a) n c) aF).run bN e=.ok (aO bD) e:=λ_ _ _ _=>rfl;go_in
  go_wp2_with(first
   |(at_builtin;refine cq _ z (.tmp 5) (.tmp 6) 103 z (G (H e)) 223 L yt 4 48 underlying103 E p q r z cg _ 0 [] z m (X v b) (y i) j (bu i) z x (λP Q F=>by rw[dS,gP A];exact C P Q F) (YD i) U U ar ?_;intro S T l o;have f:=ak l;have g:=ak o))
  go_ret;refine⟨_,z,dV<|ag f,?_⟩;have:=g.dD (B:=G<|H e) ar (by rintro s⟨⟩;grind);exact⟨this.os,this.tape,this.output,aR ar this.size,λs b=>(this.block s b).trans<|Below.heap_alloc e _ s b⟩
def DH{P:Program}{t d e f:TypeId}(c:P.underlying t=M (.slice f))(a:P.underlying d=M (.slice f))(x b:ae)(w:Z):(Builtin.append_ #[t,d] e #[x,b]).run P w=(Builtin.append_ #[t,t] e #[x,b]).run P w:=by
 cases x<;>try(simp[Builtin.append_,eV c];done)
 cases hq:P.info? f<;>simp[Builtin.append_,eV c,eV a,sizeOf,typeInfo,hq]
def pE{P:Program}(w:Z){j:Array Oper}{d:cy Oper}{C:Oper}{E:Act}{ab:Exit->Act->Z->Prop}(p:C.guard=dE)(al an:Operand)(aa D:TypeId)(W:C.op=.call {callee:=.builtin .append,args:=#[al,an],argTypes:=#[aa,D]})(m:R)(u:TypeId)(A:TypeInfo)(m9:ae)(a bytes:R)(x:P.underlying aa=M (.slice u))(r:P.underlying D=M (.slice u))(T:P.info? u=M A)(hz:A.zero=M m9)(g:A.size=a)(o:A.bytes=bytes)(s:m9.cells.size=a)(q:0<a)(K:ae)(B:R)(t:iE)(hs:E.eval al=K)(i:fD w m u a K B t)(n:Addr)(v ac:R)(b:iE)(hx:E.eval an=am (M n) v ac)(V:y b=v*a)(f:∀ad F,b[ad]?=M F->bA w (n.add ad)=M F)(L:∀F∈b,F.oneCell'=cz)(hn:B+v<=140737488355328)(c:(B+v)*bytes<=140737488355328)(e:m<=G (H w))(h:∀k l,fD l m u a k (B+v) (t++b)->fm w l K k->wpList P j ab d (E.put C.dst k) l):wpList P j ab (C::d) E w:=by
 let⟨k,l,hr,N,O,_,Q⟩:=oW (P:=P) w m aa C.type u A m9 a bytes x T hz g o s q K B t i n v ac b V f L (by unfold maxLen;omega) c e;refine ly p λao S=>?_;unfold Oper.wp;simp[execOp,W,resolve,invoke,builtin,hs,hx,DH x r,hr,Result.andThen];exact S _ _<|h k l N<|fm.of O Q
def SA(o:fD a b 223 4 d c Q)(q:b<=G (H a))(F:jP a k S)(O:c<=1000000000):cR bN 191 #[d,ay c,bX k 0 1 1] a λN A=>∃w,N=aN w/\fD A b 223 4 w (c+1) (Q++bu [S])/\fm a A d w:=by
 let⟨v,t,l,m,n⟩:=cZ oO;have r:∀K L,(bu [S])[K]?=M L->bA a (((X k 0):Addr).add K)=M L:=by intro K L s;rw[dS,cE F,ez];simpa[bu,E.bU]using s
 have p:=ak o;obtain⟨rfl,rfl⟩|⟨P,j,C,rfl,_,_,D,u,_⟩:=o.2;(.clear o;(go_in);(go_wp2_with(at_builtin;refine pE _ z (.tmp 23) (.tmp 24) 103 102 z b 223 v yt 4 48 underlying103 underlying102 t l m n z cg _ 0 Q z p (X k 0) 1 1 (bu [S]) z z r (DS S) U U q ?_;intro x B g i;have e:=ak g;have f:=ak i));go_ret;exact⟨_,z,dV<|ag e,f⟩);clear o;(have:j<=9223372036854775807:=by unfold maxLen at u;omega);by_cases s:j=c;(.subst s;(go_in);(go_wp2_with(at_builtin;refine pE _ z (.tmp 23) (.tmp 24) 103 102 z b 223 v yt 4 48 underlying103 underlying102 t l m n z cg _ j Q z p (X k 0) 1 1 (bu [S]) z z r (DS S) U U q ?_;intro x B g i;have e:=ak g;have f:=ak i));go_ret;exact⟨_,z,e,f⟩);(go_in);(go_wp2_with(at_builtin;refine pE _ z (.tmp 23) (.tmp 24) 103 102 z b 223 v yt 4 48 underlying103 underlying102 t l m n z cg _ c Q z p (X k 0) 1 1 (bu [S]) z z r (DS S) U U q ?_;intro x B g i;have e:=ak g;have f:=ak i));go_ret;exact⟨_,z,e,f⟩
section
open Shelf
attribute [local go_sem] Oper.semAt_some
def A0(l:dB):y (kM l)<=y l:=(nU l).length_le
def ZT(h:(bu<|i.take b)[c]?=M d):(bu i)[c]?=M d:=by
 grind[ie,take_append_drop,getElem?_append_left,List.getElem?_eq_some_iff]
def zcf:ae->R
 | .slice _ n _=>n
 |_=>0
def Qm(h:lF a d i)(hs:gF i)(hl:y i<=3000000000)(hv:∀k,cN d=M k->k<G (H a)):cR bN 198 #[d] a λbr w'=>∃v',br=aN v'/\fD w' (G<|H a) 223 4 v' (y<|kM i) (bu<|kM i)/\I aC a w':=by
 let⟨i0,bb,bh,bi,bk⟩:=cZ oO;let⟨bp,u,W⟩:=cG h;have bc:=CP d bp (y i) u W;have HH:=ak h;clear h;subst W;refine(ew (n:=3)).1 ?_;refine callsIn_of_wp_marks func198 z trivial ?_ z;simp only[ntmps198,gm,bK,eE,jZ,Nat.reduceSub,fc,fa,gp,fG,ep,dt];gi_wp2_with(refine⟨trivial,?_⟩;gi_at_call 142;refine(ew.2<|bc _).mono ?_;rintro br w1⟨rfl,rfl⟩)
 let⟨l,o⟩:∃l,(dw (dw a<|aK #[aF] 103)<|aK #[am bp (y i) u] 103)=l:=⟨_,rfl⟩;have:G (H l)=G (H a)+2:=by rw[<-o];simp
 have T:I aC a l:=o▸(cI aC a).aE _;have aU:fE l (G<|H a) aF 103:=by rw[<-o];grind[fE.aE,aQ]
 have aV:fE l (G (H a)+1) (am bp (y i) u) 103:=o▸aQ _ ar;have x:lF l (am bp (y i) u) i:=HH.aA T<|λk b=>⟨id,hv k b⟩;have hA0:tZ l (λk=>k=G (H a)+1) (G<|H a) (kM<|ji []) (λk=>k=G (H a)) l:=⟨⟨_,aU,ct _ _ _ _,λk=>by simp[cN]⟩,I.bI _ _⟩;rw[o];refine tJ (m:=3) (arg:=IZ<|am bp (y i) u) (V:=CX) (n0:=G<|H a) (gf:=209) (lb:=#[aJ<|G (H a)+1]) (l:=pK 0<|jh i) (S:=λk=>k=G (H a)+1) ?geval (enters_of func209 aH z) (λ_=>rfl) (yC (G<|H a) 2 aV x hv U U) trivial U (λk b=>U) (λf bl ap=>tZ l (λk=>k=G (H a)+1) (G<|H a) (kM<|ji f) bl ap) (λ_ _ _ _=>False) (λk=>k=G (H a)) hA0 (λk b u=>U) ?lt ?st (λ_ _ _ _ _ _ h=>h.elim) ?body ?done ?stop;rfl;exactλf bl ap p=>p.lt U U;intro f bl ap n r p e c;refine p.gQ e<|λk b=>⟨(c k b).1,?_⟩;obtain u|u|u:=(c k b).2;exact J u;exact u.elim;exact bj u;(case stop=>grind)
 .rintro lr f⟨ab,s⟩bl ap bx av bn v p _;let⟨hn,bE,b⟩:=LP hs.zx v;have:0<y s:=iZ.2 b.ne;have:ab+y s+y bE=y i:=by rw[b.dq,hn];simp;omega
  let⟨ac,e,bs,hx,bv⟩:=x.Gg U;cases hx;have n:=CY x b.dq b.ne;rw[<-hn]at n;unfold IZ;unfold By at n|-;simp only at n|-;have:∀k,bl k->k<G (H ap):=λk b=>(p.lt (n0:=G<|H a) U U k b).2;have:y s<=u-ab:=U;generalize u-ab=bq at*;let⟨HA,HK,HN⟩:=eU p b hn;clear p v b hn;gi_wp2;refine⟨I.bI _ _,λW2 F=>?_⟩;have hA2:=HA.gQ F<|λk b=>aI;have:ac<G (H a):=hv ac z;have O:lF W2 (bX ac (e+ab*4) (y s) bq) s:=n.aA hA2.aA<|λk b=>(show ac=k by simpa[cN]using b)▸⟨λq=>by obtain q|q:=q<;>omega,U⟩;obtain⟨ax,⟨N,aD⟩|⟨b',bo,bm,N,aD,A⟩⟩:=id O
  .omega
  cases N;let⟨lv,j,g,C⟩:=hA2.bV;let⟨ex,ec,D⟩:=aM g;have bt:=j.u;have:=j.bS;have bd:=az j;have:=F.D;have aa:G (H l)<=G (H W2):=hA2.aA.D;have:y (kM<|ji f)+y s<=3000000000:=gV (A0<|ji f)<|ag HN;clear C O n ax;generalize P:kM (ji f)=t at*;subst D;gi_wp2;gi_loop [4] (λa=>∃L:R,L<=y s/\a=bX ac (e+ab*4) L bq/\xA s=xA (s.take L)) zcf
  .exact⟨y s,aq _,z,by rw[cQ]⟩
  .obtain⟨L,hj,rfl,Q⟩:=hrel;have c:(L=0\/∃h:L-1<y s,s[L-1].dP=bD)\/∃r,∃_:r<y s,L=r+1/\s[r].dP=cz:=by
    grind
   obtain c|⟨r,hp,rfl,hd⟩:=c
   .have an:=ak<|Ux hj Q c;have ba:(L=0\/∃r,L=r+1/\bA W2 (X ac<|e+ab*4+r*4+2)=M (aO bD)):=by
     obtain h|⟨h1,h2⟩:=c
     .exact J h
     .cases L with
      |zero=>exact J z
      |succ r=>
       have g2:=A _ _ (fH s r U).2.2.1;rw[<-bJ]at g2;grind
    have ad:=ak (show∀i u,(bu<|s.take L)[i]?=M u->bA W2 (((X ac<|e+ab*4):Addr).add i)=M u fromλi u a=>by rw[dS];exact A _ _<|ZT a);have w:=ak (show y (s.take L)=L by simp;omega);clear c;have bf:=ag w;generalize s.take L=gj at*;obtain rfl|⟨r,rfl,g2⟩:=ba;case' inr=>
     have e2:(0:Y)<=(r:Y):=U;have e3:(r:Y)<(r:Y)+1:=U;have e4:(0:Y)<(r:Y)+1:=U
    all_goals
     clear bf;gi_wp2_with(first
      |(gi_at_builtin;refine gl _ z (.tmp 25) (.tmp 26) 103 z (G (H l)) 223 i0 yt 4 48 underlying103 bb bh bi bk z cg (.slice ex (y t) ec) (y t) (bu t) z g (X ac (e+ab*4)) _ bq (bu gj) z (by rw[ic,ag w]) ad (YD gj) U U aa ?_;intro v5 w5 E K;let⟨x5,c5,bg⟩:=aM E;subst bg;have B:fE w5 (G (H a)) (.slice ex (y t) ec) 103:=(K.dF.block _ bd (λbr=>bP ((g.lt _ br.symm).1))).trans j;have:=B.u;have:=B.bS;have al:=ak E;have ao:=ak K;clear E K B))
     let⟨B2,r1,r2,r3⟩:=hA2.jj (xs:=gj) U j (I.bI _ _) ao<|ag w▸al;refine⟨trivial,B2,?_,(F.aT<|λk b=>J<|bj b).aj r2<|λk b=>J<|J b,r2.A lr U av,λk b=>(r3 k b).imp_right<|λu=>U⟩;show tZ l _ _ (kM<|ji<|f++[(ab,s)]) B2 _;rwa[vG,(ag HK).t,ag an,P]
   .have g2:=A _ _ (fH s r hp).2.2.1;rw[hd,<-bJ]at g2;have w:=ak<|Q.trans<|Uy hp hd;clear hd;have:(0:Y)<=(r:Y):=U;have:(r:Y)<(r:Y)+1:=U;have:(0:Y)<(r:Y)+1:=U;have:(r:Y)<=(bq:Y):=U;gi_wp2;exact⟨⟨r,U,z,w⟩,by simp[zcf]⟩
 intro s bl ap r p e _ n;let⟨lv,j,g,C⟩:=p.bV;rw[CS]at g;obtain⟨ex,ec,D⟩:=aM g;have:=j.u;have:=az n;subst D;gi_wp2;have c:=iB ap s<|.deferred dE;refine⟨ar,J ⟨_,_,z,run_takeDeferred n,?_⟩⟩;refine⟨_,gG z _ _ _,?_⟩;have hx:=c.aZ g<|λk b u=>e<|(C s).2<|bj<|u▸b;refine⟨_,z,fh hx U,T.aj (p.aA.aj c<|λk b=>bj (by subst b;omega))<|λk b=>bj (by obtain u|u:=b<;>omega)⟩
end
section
open Shelf
def Be{P:Program}{b:Array Oper}{o:Oper}{f:Act}{p:Act->Z->Prop}{Q:Exit->Act->Z->Prop}(k:o.guard=dE)(q x:Operand)(g h:TypeId)(c:o.op=Op.call {callee:=Callee.builtin Builtin.copy,args:=#[q,x],argTypes:=#[g,h]})(v u:ae)(j:f.eval q=v)(n:f.eval x=u)(l:(Builtin.copy_ #[g,h] o.type #[v,u]).run P a=.ok d e)(i:p (f.put o.dst d) e):if Region.wanted o (yielded b f.tmps)=cz then Oper.wp P o f a p Q else K:=by
 have m:Region.wanted o (yielded b f.tmps)=cz:=by simp[Region.wanted,k]
 rw[fV m];unfold Oper.wp;simp[execOp,c,resolve,invoke,builtin,j,n,l,Result.andThen];exact i
def UX(w:Z):(Go.sizeOf 223).run bN w=.ok 4 w:=aH
def rX{w:Z}{g:TypeId}{a:Array ae}(d:w.heap[c]?=M (aK a g (0,0)))(f:a.toList.take (b*4)=Q)(j:R)(u:ae)(o:R)(e:(Q.drop o)[j]?=M u):bA w (X c<|o+j)=M u:=by
 rw[cE d];rw[List.getElem?_drop,<-f,qJ]at e;grind
def LU(n6 j d n i:R)(k:Array ae)(l:iE)(F:n6<=j)(N:a.heap[j]?=M (aK k 223 (0,0)))(A:n+1<=d)(Q:d<=9223372036854775807)(D:k.size=d*4)(u:k.toList.take (n*4)=l)(o:jP a b S)(r:b≠j)(hi:i<n)(hn:n<=1000000000)(h1:∀ab∈l,ab.oneCell'=cz):cR bN 191 #[bX j 0 n d,ay i,bX b 0 1 1] a λac w'=>ac=aN (bX j 0 (n+1) d)/\fD w' n6 223 4 (bX j 0 (n+1) d) (n+1) (l.take (i*4)++bu [S]++l.drop (i*4))/\I (λaa=>aa=j) a w':=by
 have L:y l=n*4:=by rw[<-u,dX,nG];omega
 have T:∀lb m,(callFunc 250 #[bX b 0 1 1,bX j ((i+1)*4) lb m]).run bN a=.ok (.value<|aO bD) a:=λlb m=>by rw[fF func250 aH aH aH (e:=Extern.SlicesOverlaps.overlaps #[102,102] #[4]) aH,Lib.run_overlaps_apart a 102 4 223 underlying102 4 UX (X b 0) (X j<|(i+1)*4) 1 1 lb m r _ _ 4 (d*4) (by unfold jP at o;simp[World.shape?,o];rfl) (by simp[World.shape?,N,D];rfl) U (by unfold jP at o;simp[World.frozen?,o]) (by unfold jP at o;simp[World.frozen?,o])];rfl
 have s:(prog.info? 223).map (·.size)=M 4:=aH;have K:y (l.drop<|i*4)=(n-i)*4:=by rw[iY,L];omega
 let⟨c,g⟩:∃c,c=(k.toList.take ((i+1)*4)++l.drop (i*4)++k.toList.drop ((i+1)*4+y (l.drop<|i*4))):=⟨_,rfl⟩;have O:y c=d*4:=by rw[g];grind
 have B:∀v p m,(Builtin.copy_ #[103,103] v #[bX j ((i+1)*4) (n-i) p,bX j (i*4) (n+1-i) m]).run bN a.drew=.ok (goInt<|Nat.min (n+1-i)<|n-i) (a.drew.setRow j c.toArray):=λv p m=>by rw[g];refine tq a.drew _ _ v 223 4 j ((i+1)*4) _ p (X j<|i*4) _ m k _ (l.drop<|i*4) underlying103 s N ?_ (λad ab P=>by rw[dS];exact rX N u ad ab _ P) U aI;rw[K];grind
 have q:(a.drew.setRow j c.toArray).heap[j]?=M (aK c.toArray 223 (0,0)):=vY _ _ _ _ _ _ N;let⟨e,f⟩:∃e,e=(c.take (i*4)++bu [S]++c.drop (i*4+y (bu [S]))):=⟨_,rfl⟩;have t:y (bu [S])=4:=rfl;have V:jP (a.drew.setRow j c.toArray) b S:=(uu a.drew j b _ r).trans o;have C:∀(W:Z),W.heap=(a.drew.setRow j c.toArray).heap->∀v p,(Builtin.copy_ #[103,102] v #[bX j (i*4) (n+1-i) p,bX b 0 1 1]).run bN W=.ok (goInt<|Nat.min 1<|n+1-i) (W.setRow j e.toArray):=λW w v p=>by rw[f];refine tq W _ _ v 223 4 j (i*4) _ p (X b 0) _ 1 c.toArray _ (bu [S]) underlying103 s (w▸q) ?_ (λad ab P=>?_) dW<|DS S;rw[t];simp only[Nat.min_def];split<;>omega;rw[dS,cE (show jP W b S by unfold jP;rwa[w]),ez];simpa[bu,E.bU]using P
 have:¬((i:Y)=(n:Y)):=U;have:IntKind.i64.wrap ((i:Y)+1)=(i:Y)+1:=by rw[bR];omega
 have:IntKind.i64.wrap ((n:Y)+1)=(n:Y)+1:=by rw[bR];omega
 have:((i:Y)+1).toNat=i+1:=U;have:((n:Y)+1).toNat=n+1:=U;have:(0:Y)<=(i:Y)+1:=U;have:i<=n:=U;have:(i:Y)<=(n:Y)+1:=U;have:¬(d=i):=U;have:¬(d=i+1):=U;have:prog.follows .mixedOrders=cz:=aH
 have x:=ak (show∀W:Z,W.heap=(a.drew.setRow j c.toArray).heap->W.os=a.os->W.tape=a.tape->W.output=a.output->fD (W.setRow j e.toArray) n6 223 4 (bX j 0 (n+1) d) (n+1) (l.take (i*4)++bu [S]++l.drop (i*4))/\I (λaa=>aa=j) a (W.setRow j e.toArray)from by
  intro W w e1 e2 e3;refine⟨⟨by simp[t];omega,bj ⟨j,d,e.toArray,z,F,vY _ _ _ _ _ _<|w▸q,A,Q,?_,?_⟩⟩,⟨e1,e2,e3,?_,?_⟩⟩
  .rw[f];grind
  .rw[List.toList_toArray,f,g];grind[Zi]
  .rw[setRow_size,w,setRow_size];simp_all
  .intro aa hk m;rw[uu _ _ _ _ m,w,uu _ _ _ _ m];rfl)
 clear O K g f t V q L h1 u D s o r F;go_in
 go_wp2_with(simp only[T])
 go_region_law_o (refine Be z _ _ 103 103 z _ _ (by simp[Act.eval,ig]) (by simp[Act.eval,ig]) (B _ _ _) ?_)
 go_wp2_with(at_builtin;refine wpList_copy_run _ z _ _ 103 102 z _ _ z z (C _ z _ _) ?_)
 go_ret;exact⟨z,x _ z z z z⟩
end
structure SR where
 f:R
 D:Y
 ua:Y
 d:eN
 L:ae
 o:R
 S:R
 l0:ae
 l1:ae
 l2:ae
 l3:ae
 t:R
 v:R
 n:Option R
 l:R
 i:eN
 mw:eN
 k:eN
 x:eN
variable{o:SR}
def SR.bU(s:SR)(k:Y):Array ae:=#[iC k,eI 0,aJ s.f,ay s.D,ay s.ua,aO s.d,ib,s.L,ay s.o,bw s.S,s.l0,s.l1,s.l2,s.l3,bw s.t,ay s.v,.map s.n,bw s.l,aO s.i,aO s.mw,aO s.k,aO s.x]
def cU(w:Z)(a:R)(s:SR)(k:Y):Prop:=w.heap[a]?=M (aK (s.bU k) 110 (0,0))
def cU.u{w:Z}(h:cU w c o r){i:R}(a:(o.bU r)[i]?=M d):bA w (X c i)=M d:=by
 rwa[cE h]
def cU.bW{w:Z}(h:cU w b o r)(i:R)(e:(o.bU r).toList[i]?=M d):bA w (X b i)=M d:=h.u (by rw[<-e];simp)
def cU.bS{w:Z}{a i:R}(h:cU w a o r):iH w (X a i)=bD:=cV h
def cU.aA{S:fB}{w w':Z}(h:cU w c o r)(d:I S w w')(a:¬S c):cU w' c o r:=(d.A c (az h) a).trans h
def zaj(w:Z)(t:ae):cR bN 32 #[ib,t] w λe a=>e=aN (aO bD)/\a=w:=by
 go_in
 go_wp2;go_ret;simp_all
def JQ(w:Z):cR bN 103 #[ib] w λe a=>e=aN ib/\gC (G<|H w) w a:=by
 go_in
 go_wp2_with(go_at_call 32;refine(zaj _ _).mono ?_;rintro e b⟨rfl,rfl⟩)
 go_ret;exact⟨z,(Below.refl _ w).alloc (aq _) _⟩
def mX(h:cU a b o r):cR bN 49 #[aJ b] a λf e=>f=aN (ue<|if o.d then 6 else 0)/\gC (G<|H a) a e:=by
 have c5:bA a (X b 5)=M (aO o.d):=h.u z;have:bA a (X b 6)=M ib:=h.u z;have d:=JQ a;cases hc:o.d with
 |true=>
  rw[hc]at c5;clear h hc;go_in
  go_wp2;go_ret;exact⟨z,Below.refl _ _⟩
 |false=>
  rw[hc]at c5;clear h hc;go_in
  go_wp2_with(go_at_call 103;refine d.mono ?_;rintro f g⟨rfl,c⟩;have HB:=ak c;clear c)
  go_ret;exact⟨z,HB⟩
def qd(a:Y)(i n:R):eN:=if i=0 then decide (a<=(n:Y))else decide (i<3)&&decide (a<(n:Y))
def tQ(i n:R)(x:Option Addr)(f:R)(h:cU a c o r)(j:i<4):cR bN 77 #[aJ c,ay i,am x n f] a λg e=>g=aN (aO<|qd o.ua i n)/\e=a:=by
 have:bA a (X c 4)=M (ay o.ua):=h.u z;generalize o.ua=k at*;clear h;have d:i=0\/i=1\/i=2\/i=3:=U;obtain rfl|rfl|rfl|rfl:=d;(·(go_in);go_wp2;go_ret;exact⟨z,z⟩);(·(go_in);go_wp2;go_ret;exact⟨z,z⟩);(·(go_in);go_wp2;go_ret;exact⟨z,z⟩);(go_in);go_wp2;go_ret;exact⟨z,z⟩
section
open Conc.Locks
def cU.jg(h:cU a b o r)(j:Y):cU (cP a (X b 0)<|iC j) b o j:=by
 have:=aY (i:=0) (u:=iC j) h;exact this
end

def SR.wB(b:R)(a c:Y)(d:R):SR:=⟨b,a,c,bD,aF,0,0,aF,aF,aF,aF,0,0,M d,0,bD,bD,bD,bD⟩
def KM(a:R):Array ae:=#[.func (.func 28) #[aJ a] #[],.func (.func 29) #[aJ a] #[],.func (.func 30) #[aJ a] #[],.func (.func 31) #[aJ a] #[]]
def kO.at1(w:Z)(o:Obj):kO (dw (dw w o)<|.map #[] 0) (G (H w)+1) []:=by
 have:=kO.lX<|dw w o;simp_all
def I6(s:R)(c l:Y)(w:Z)(S:1<=c/\c<=32/\2<=l/\l<=6)(r v x A B:Z->Prop)(o:Z->R->Prop)(p:∀W,I aC w W->cU W (G (H w)+2) (SR.wB s c l<|G (H w)+1) 0->kO W (G (H w)+1) []->G (H W)=G (H w)+4->r W)(E:∀W,r W->cR bN 28 #[aJ<|G (H w)+2] W λm d=>(m=aN ib/\v d/\d.heap[G (H w)+3]?=W.heap[G (H w)+3]?)\/∃q,m=aN (eW q)/\o d q)(F:∀W,v W->cR bN 29 #[aJ<|G (H w)+2] W λm d=>(m=aN ib/\x d/\d.heap[G (H w)+3]?=W.heap[G (H w)+3]?)\/∃q,m=aN (eW q)/\o d q)(K:∀W,x W->cR bN 30 #[aJ<|G (H w)+2] W λm d=>(m=aN ib/\A d/\d.heap[G (H w)+3]?=W.heap[G (H w)+3]?)\/∃q,m=aN (eW q)/\o d q)(L:∀W,A W->cR bN 31 #[aJ<|G (H w)+2] W λm d=>(m=aN ib/\B d/\d.heap[G (H w)+3]?=W.heap[G (H w)+3]?)\/∃q,m=aN (eW q)/\o d q):cR bN 10 #[aJ s,ef #[ay c,ay l]] w λm d=>(m=aN (de #[aJ<|G (H w)+2,ib])/\B d)\/∃q,m=aN (de #[ee dE,eW q])/\o d q:=by
 let⟨T,V,o3,o4⟩:=S;have:¬c<1:=U;have:¬32<c:=U;have:¬l<2:=U;have:¬6<l:=U;have:∀a w,(callFunc 28 a).run bN w=.ok (.enter 28 a) w:=enters_of func28 aH z;have:∀a w,(callFunc 29 a).run bN w=.ok (.enter 29 a) w:=enters_of func29 aH z;have:∀a w,(callFunc 30 a).run bN w=.ok (.enter 30 a) w:=enters_of func30 aH z;have:∀a w,(callFunc 31 a).run bN w=.ok (.enter 31 a) w:=enters_of func31 aH z;let⟨D,N,O,P,Q⟩:=nZ (show r (dw (dw (dw (dw w<|aK #[ay c,ay l] 38)<|.map #[] 0)<|aK ((SR.wB s c l<|G (H w)+1).bU 0) 110)<|aK (KM<|G (H w)+2) 80)/\(dw (dw (dw (dw w<|aK #[ay c,ay l] 38)<|.map #[] 0)<|aK ((SR.wB s c l<|G (H w)+1).bU 0) 110)<|aK (KM<|G (H w)+2) 80).heap[G (H w)+3]?=M (aK (KM<|G (H w)+2) 80 (0,0))from⟨p _ ((((cI aC w).aE _).aE _).aE _) ((gw _ ar).trans<|aQ _ ar) (((kO.at1 w _).aE _).aE _) ar,aQ _ ar⟩) E F K L;clear T V o3 o4 p E F K L;have:=@tC bN;go_in
 go_wp2;go_loopw [44] (λi wr=>∃(t:R),t<=4/\i=ay t/\((t=0/\r wr)\/(t=1/\v wr)\/(t=2/\x wr)\/(t=3/\A wr)\/(t=4/\B wr))/\wr.heap[G (H w)+3]?=M (aK (KM<|G (H w)+2) 80 (0,0))) (λi _=>4-(intOf i).toNat)
 exact⟨0,U,dM,J ⟨z,D.1⟩,D.2⟩;(.obtain⟨t,hj,rfl,f,e⟩:=hrel;have:=aX e 0;have:=aX e 1;have:=aX e 2;have:=aX e 3;obtain⟨rfl,f⟩|⟨rfl,f⟩|⟨rfl,f⟩|⟨rfl,f⟩|⟨rfl,f⟩:=f;(.have j:=N wr f;clear f;go_wp21;go_call j as m C(⟨rfl,i,b⟩|⟨q,rfl,k⟩);rotate_left;(.have n:=ak k;clear k j;go_wp2;(go_ret2);exact bj ⟨q,z,n⟩);have g:=ak<|b.trans e;clear b j;go_wp2;go_roundw;exact⟨1,U,dM,bj<|J ⟨z,i⟩,g⟩;simp[intOf]);(.have j:=O wr f;clear f;go_wp21;go_call j as m C(⟨rfl,i,b⟩|⟨q,rfl,k⟩);rotate_left;(.have n:=ak k;clear k j;go_wp2;(go_ret2);exact bj ⟨q,z,n⟩);have g:=ak<|b.trans e;clear b j;go_wp2;go_roundw;exact⟨2,U,dM,bj<|bj<|J ⟨z,i⟩,g⟩;simp[intOf]);(.have j:=P wr f;clear f;go_wp21;go_call j as m C(⟨rfl,i,b⟩|⟨q,rfl,k⟩);rotate_left;(.have n:=ak k;clear k j;go_wp2;(go_ret2);exact bj ⟨q,z,n⟩);have g:=ak<|b.trans e;clear b j;go_wp2;go_roundw;exact⟨3,U,dM,bj<|bj<|bj<|J ⟨z,i⟩,g⟩;simp[intOf]);(.have j:=Q wr f;clear f;go_wp21;go_call j as m C(⟨rfl,i,b⟩|⟨q,rfl,k⟩);rotate_left;(.have n:=ak k;clear k j;go_wp2;(go_ret2);exact bj ⟨q,z,n⟩);have g:=ak<|b.trans e;clear b j;go_wp2;go_roundw;exact⟨4,U,dM,bj<|bj<|bj<|bj<|⟨z,i⟩,g⟩;simp[intOf]);have u:=ak f;clear f;go_wp2;(go_ret2);exact J ⟨z,u⟩)
structure Acc(S:fB)(w0:Z)(fx:cy (R×ae×TypeId))(lb:R)(c b:TypeId)(a base n:R)(xs:iE)(B:fB)(W:Z):Prop where
 l:∀p∈fx,fE W p.1 p.2.1 p.2.2
 bV:∃v,fE W lb v c/\fD W base b a v n xs/\(∀k,B k↔(∃p∈fx,p.1=k)\/k=lb\/cN v=M k)
 f:∀p∈fx,G (H w0)<=p.1/\p.1<base/\p.1≠lb
 L:G (H w0)<=lb/\lb<base
 aA:I S w0 W
section
variable{S:fB}{w0 W:Z}{fx:cy (R×ae×TypeId)}{lb:R}{c b:TypeId}{a n6 n:R}{xs:iE}{B:fB}
theorem Acc.lt(h:Acc S w0 fx lb c b a n6 n xs B W):∀k,B k->G (H w0)<=k/\k<G (H W):=by
 intro k j;let⟨v,m,g,i⟩:=h.bV;have:=h.L;obtain⟨p,d,e⟩|e|e:=(i k).1 j;subst e;exact⟨(h.f p d).1,az<|h.l p d⟩;grind
 have:=g.lt k e;grind
theorem Acc.gQ{e:Z}{T:fB}(h:Acc S w0 fx lb c b a n6 n xs B W)(d:I T W e)(l:∀k,T k->¬B k/\(S k\/G (H w0)<=k)):Acc S w0 fx lb c b a n6 n xs B e:=by
 let⟨v,f,i,j⟩:=h.bV;exact⟨λp g=>(d.A _ (az<|h.l p g) aI).trans<|h.l p g,⟨v,(d.A _ (az f) aI).trans f,d.aZ i aI,j⟩,h.f,h.L,h.aA.aj d<|λk m=>(l k m).2⟩
theorem Acc.jj{e:Z}{v d:ae}{u:R}{l:iE}(h:Acc S w0 fx lb c b a n6 n xs B W)(t:fE W lb v c)(F:∀k,B k↔(∃p∈fx,p.1=k)\/k=lb\/cN v=M k)(C:fD W n6 b a v n xs)(r:I (λk=>cN v=M k) W e)(w:cN d=cN v\/∃E,cN d=M E/\G (H W)<=E)(g:fD e n6 b a d u l):∃s,Acc S w0 fx lb c b a n6 u l s (cP e (X lb 0) d)/\I B W (cP e (X lb 0) d)/\(∀k,s k->B k\/G (H W)<=k):=by
 have:∀k,cN v=M k->n6<=k/\k<G (H W):=λk f=>C.lt k f;have:∀k,cN d=M k->n6<=k:=λk f=>(g.lt k f).1;have:=h.L;have q:fE e lb v c:=(r.A _ (az t) aI).trans t;have j:I B W (cP e (X lb 0) d):=(r.aT (T:=B) aI).aL _ _ _ aI;refine⟨λk=>(∃p∈fx,p.1=k)\/k=lb\/cN d=M k,⟨λp o=>?_,⟨d,q.gq _,?_,λk=>th⟩,h.f,h.L,?_⟩,j,?_⟩;let⟨K,L,D⟩:=h.f p o;have A:fE e p.1 p.2.1 p.2.2:=(r.A _ (az<|h.l p o) aI).trans<|h.l p o;exact A.dN _ D;exact g.kept (eG e _ _ _) aI;exact h.aA.aj j<|λk f=>bj (h.lt k f).1;grind
end
def Up{α:Type}(e:α->Array ae)(V:ju)(h n j:R)(l:Array ae)(m:cy α)(S:fB)(w:Z):Prop:=∀(g:R)(d:cy α->fB->Z->Prop)(f:cy α->Z->Prop)(B:fB)(W:Z),kZ V h S w W->V.D W->d [] B W->(∀k,S k->¬B k)->(∀a B W,d a B W->∀k,B k->h<=k/\k<G (H W))->(∀a B W b T,d a B W->I T W b->(∀k,T k->¬B k/\(V.F k\/G (H w)<=k))->d a B b)->(∀a x B W,(a++[x])<+:m->d a B W->V.D W->YieldAt Fence.wide (n-1) bN g (e x) W λi b=>
 (i=aN (aO cz)/\V.D b/\∃c,d (a++[x]) c b/\I B W b/\(∀k,c k->B k\/G (H W)<=k))\/(i=aN (aO bD)/\f (a++[x]) b))->
 CallsIn Fence.wide n bN j (#[.func (.yield g) #[] #[]]++l) W λi b=>(∃v,i=aN v)/\((∃c,d m c b/\V.D b)\/(∃a,f a b))
def Up.q{α:Type}{a:α->Array ae}{d:Array ae}{l:cy α}{S:fB}{w:Z}(h:Up a s c k n d l S w):Uo a s c k n d (λt _=>t<+:l) (·=l) S (λv=>s.F v\/G (H w)<=v) w:=by
 intro u x e B W f g j m o q r;apply(h u x e B W f g j m o q r).mono;grind
def Eu{α:Type}{c:α->Array ae}{m:R}{F:Operand}{u:Array Tmp}{b body:Code}{Q:Exit->Act->Z->Prop}{a:Act}{V:ju}{n0 gf:R}{lb:Array ae}{l:cy α}{S:fB}(C:a.eval F=.func (.func gf) #[] lb)(w:Enters bN gf)(q:∀K,(c K).size=u.size)(QG:Up c V n0 (m-1) gf lb l S e)(A:V.D e)(p:n0<=G (H e))(i:∀t,S t->t<G (H e))(v:cy α->fB->Z->Prop)(s:Code->cy α->fB->Z->Prop)(B:fB):Tv c m F u b body Q a e V n0 (λE _=>E<+:l) S (λt=>V.F t\/G (H e)<=t) v s B (∀(D:R)(B:fB)(W:Z),G (H e)<=D->v l B W->¬B D->V.D W->W.heap[D]?=M (.deferred<|M [])->Q .normal {a with defers:={target:=.collected D,args:=#[]}::a.defers} W):=λx k o r j d f g=>tI (λ_ h=>bj h) C w q QG.q A p i v s B x k o r j d (λ_ D B W n=>n▸f D B W) g
