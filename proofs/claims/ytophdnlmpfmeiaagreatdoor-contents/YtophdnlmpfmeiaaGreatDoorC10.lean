import Derived.Deep.LoopGhost
import Derived.Lib.Bytealg
import Derived.Test.YtophdnlmpfmeiaaGreatDoorC5
import Derived.Test.YtophdnlmpfmeiaaGreatDoorC6
namespace Go.Proofs.YtophdnlmpfmeiaaGreatDoor
open ChangeShapes WideShapes RowKit Proofs.Tryz
set_option maxHeartbeats 16000000
set_option linter.all false
set_option maxRecDepth 100000
def An(a b:aa):Int:=Lib.compareBytes a.data.toList b.data.toList
def Cq:∀(x y:List UInt8),(Lib.compareBytes x y<0↔x<y)/\(Lib.compareBytes x y=0↔x=y)
 |[],[]=>by simp[Lib.compareBytes]
 |[],_::_=>by simp[Lib.compareBytes]
 |_::_,[]=>by simp[Lib.compareBytes]
 |a::x,d::y=>by
  obtain⟨g,i⟩:=Cq x y;unfold Lib.compareBytes;rw[sf,jh];by_cases h:a<d
  ·have b:¬a=d:=λe=>UInt8.lt_irrefl d (by rw[e]at h;exact h);simp[h,b]
  ·by_cases c:d<a
   ·have b:¬a=d:=λe=>UInt8.lt_irrefl d (by rw[e]at c;exact c);simp[h,c,b]
   ·have f:a=d:=UInt8.le_antisymm (UInt8.not_lt.1 c) (UInt8.not_lt.1 h);simp[f,g,i]
def NM(a b:aa):decide (An a b<0)=ep a b:=by
 unfold An ep;rw[Bj,iD,iD];exact decide_eq_decide.2 (Cq _ _).1
def NP(a b:aa):(An a b==0)=decide (a=b):=by
 unfold An;rw[rW];simp only[ri,lQ];rw[(Cq _ _).2];constructor
 ·intro h;cases a;cases b;simpa using h
 ·rintro rfl;rfl
def EA(b c:aa)(w:J):Calls prog 164 #[.string b,.string c] w λe a=>e=.returned (.int .i64 (An b c))/\a=w:=by
 have h:=@di prog 232 _ Extern.BytealgCompare.compare func232 (by kernel_rfl) (by kernel_rfl) (by kernel_rfl) (by kernel_rfl);have f:=@Lib.run_compareString prog;have d:∀w,Calls prog 205 #[.string b,.string c] w λe a=>e=.returned (.int .i64 (An b c))/\a=w:=by
  intro w;go_enter func205,ntmps205
  go_wp2;go_ret;exact⟨rfl,rfl⟩
 go_enter func164,ntmps164
 go_wp2_with(go_at_call 205;refine(d _).mono ?_;rintro e g⟨rfl,rfl⟩)
 go_ret;exact⟨rfl,rfl⟩
def FP(x:E)(k:aa)(w:J):Calls prog 163 #[x.value,.string k] w λf e=>f=.returned (.int .i64 (An x.key k))/\Below w.heap.size w e:=by
 have b:=EA;obtain⟨c,d,a,bV⟩:=x;unfold E.value;simp only;go_enter func163,ntmps163
 go_wp2_with(go_at_call 164;refine(b _ _ _).mono ?_;rintro f g⟨rfl,rfl⟩)
 go_ret;exact⟨rfl,(Below.refl _ w).alloc (ai _) _⟩
def aF(l:List E):List M:=l.flatMap E.cells
def iS(l:List E):(aF l).length=l.length*4:=by
 induction l with
 |nil=>rfl
 |cons e r a=>unfold aF at*;rw[cF,ag,a];simp[E.cells];omega
def eK(a b:List E):aF (a++b)=aF a++aF b:=by simp[aF]
def dP(l:List E)(n:Nat)(h:n<l.length):(aF l)[n*4]?=some (.string l[n].key)/\(aF l)[n*4+1]?=some (.string l[n].val)/\(aF l)[n*4+2]?=some (.bool l[n].del)/\(aF l)[n*4+3]?=some (.int .u64 l[n].bV):=by
 have e:aF l=aF (l.take n)++(E.cells l[n]++aF (l.drop (n+1))):=by
  have b:l=l.take n++l[n]::l.drop (n+1):=by rw[<-bm h,bF]
  conv=>lhs;rw[b]
  simp only[aF,dZ,cF]
 have a:(aF (l.take n)).length=n*4:=by rw[iS];simp;omega
 refine⟨?_,?_,?_,?_⟩
 ·rw[e,dD (by omega),a];simp[E.cells]
 ·rw[e,dD (by omega),a,show n*4+1-n*4=1 by omega];simp[E.cells]
 ·rw[e,dD (by omega),a,show n*4+2-n*4=2 by omega];simp[E.cells]
 ·rw[e,dD (by omega),a,show n*4+3-n*4=3 by omega];simp[E.cells]
def nT(w:J)(v:M)(l:List E):Prop:=Row w 4 v l.length (aF l)
def OH{l:List E}{k:aa}{n:Nat}(h:n<=l.length)(d:∀t(g:t<l.length),t<n->ep l[t].key k=true)(f:∀t(g:t<l.length),n<=t->ep l[t].key k=false):pos l k=n:=by
 unfold pos;rw[<-bF n l,List.countP_append];have j:(l.take n).countP (λe=>ep e.key k)=n:=by
  rw[List.countP_eq_length.2]
  ·simp;omega
  ·intro x c;obtain⟨i,b,rfl⟩:=dj c;rw[fi];have a:i<n/\i<l.length:=by simp at b;omega
   exact d i a.2 a.1
 have m:(l.drop n).countP (λe=>ep e.key k)=0:=by
  rw[nV];intro x c;obtain⟨i,b,rfl⟩:=dj c;rw[pH];have a:i<l.length-n:=by simpa using b
  rw[f (n+i) (by omega) (by omega)];simp
 omega
def fG.mono{l:List E}(h:fG l){i j:Nat}(d:i<=j)(g:j<l.length){k:aa}(e:ep l[j].key k=true):ep (l[i]'(by omega)).key k=true:=by
 rcases lm d with c|c
 ·exact iR (bG.1 h i j (by omega) g c) e
 ·subst c;exact e
def fG.Pu{l:List E}(h:fG l){i j:Nat}(a:i<=j)(b:j<l.length){k:aa}(d:ep (l[i]'(by omega)).key k=false):ep l[j].key k=false:=by
 cases c:ep l[j].key k with
 |false=>rfl
 |true=>have:=h.mono a b c;rw[d]at this;cases this
def EG(l:List E)(y d F:Nat)(k:aa)(G:J)(T:fG l)(hl:l.length<=1000000000000)(n:y<G.heap.size)(Q:∀H al,(aF l)[H]?=some al->G.cell? ⟨y,d+H,none⟩=some al):Calls prog 162 #[.slice (some ⟨y,d,none⟩) l.length F,.string k,.func (.func 163) #[] #[]] G λV w'=>
 V=.returned (.tuple #[.int .i64 (pos l k),.bool (decide (∃p:pos l k<l.length,l[pos l k].key=k))])/\Below G.heap.size G w':=by
 have j:=Z Q
 have N:=Z T
 have S:=FP
 clear Q T
 go_enter func162,ntmps162
 go_wp2
 go_loopw [9,10] (λa H wr=>∃b i:Nat,a=.int .i64 b/\H=.int .i64 i/\b<=i/\i<=l.length/\(∀v(C:v<l.length),v<b->ep l[v].key k=true)/\(∀v(C:v<l.length),i<=v->ep l[v].key k=false)/\Below G.heap.size G wr) (λa H _=>(intOf H).toNat-(intOf a).toNat)
 case atStart=>exact⟨0,l.length,rfl,rfl,aU _,ai _,λv _ p=>by omega,λv C p=>by omega,Below.refl _ _⟩
 case round=>
  obtain⟨b,i,rfl,rfl,X,z,O,P,a⟩:=hrel;have K:=Z O;have L:=Z P;have o:=Z a;clear O P;by_cases ac:b<i
  ·obtain⟨m,hm⟩:∃m:Nat,(b+i)/2=m:=⟨_,rfl⟩;have A:m<l.length:=by omega
   have h:=dP l m A;have q:wr.cell? ⟨y,d+m*4,none⟩=some (.string l[m].key):=(a.cell (by exact n)).trans ((Y j) _ _ h.1);have r:wr.cell? ⟨y,d+m*4+1,none⟩=some (.string l[m].val):=(a.cell (by exact n)).trans (by rw[aP];exact(Y j) _ _ h.2.1);have s:wr.cell? ⟨y,d+m*4+2,none⟩=some (.bool l[m].del):=(a.cell (by exact n)).trans (by rw[aP];exact(Y j) _ _ h.2.2.1);have t:wr.cell? ⟨y,d+m*4+3,none⟩=some (.int .u64 l[m].bV):=(a.cell (by exact n)).trans (by rw[aP];exact(Y j) _ _ h.2.2.2);have R:((b:Int)+(i:Int))/2=(m:Int):=by omega
   clear h a;have f:=S l[m] k;have c:=NM l[m].key k;have w:=Z (λ(p:ep l[m].key k=true)v(C:v<l.length)(u:v<m+1)=>(Y N).mono (Nat.le_of_lt_succ u) A p);have x:=Z (λ(p:ep l[m].key k=false)v(C:v<l.length)(u:m<=v)=>(Y N).Pu u C p);generalize l[m]=ad at*;obtain⟨D,xv,xd,xb⟩:=ad;simp only at q r s t c w x;simp only[E.value]at f;generalize An D k=W at*;cases hkl:ep D k with
   |true=>
    rw[hkl]at c;have B:W<0:=by simpa using c
    clear c;go_wp2_with(go_at_call 163;refine(f _).mono ?_;rintro V U⟨rfl,e⟩;have g:=Z e;clear e)
    go_roundw;case rel=>exact⟨m+1,i,by go_num,rfl,by omega,z,(Y w) hkl,Y L,(Y o).trans ((Y g).mono (Y o).size)⟩
    case measure=>simp[intOf];omega
   |false=>
    rw[hkl]at c;have B:¬W<0:=by simpa using c
    clear c;go_wp2_with(go_at_call 163;refine(f _).mono ?_;rintro V U⟨rfl,e⟩;have g:=Z e;clear e)
    go_roundw;case rel=>exact⟨b,m,rfl,by go_num,by omega,by omega,Y K,(Y x) hkl,(Y o).trans ((Y g).mono (Y o).size)⟩
    case measure=>simp[intOf];omega
  ·have A:b=i:=by omega
   subst A;have c:pos l k=b:=OH z (Y K) (Y L);have w:=Z (show∀B:Bool,decide (∃p:b<l.length,l[b].key=k)=B->Ending.returned (.tuple #[.int .i64 b,.bool B])=Ending.returned (.tuple #[.int .i64 (pos l k),.bool (decide (∃p:pos l k<l.length,l[pos l k].key=k))])by
    intro B m;subst c;rw[m])
   clear c;by_cases u:b<l.length
   ·have h:=dP l b u;have q:wr.cell? ⟨y,d+b*4,none⟩=some (.string l[b].key):=(a.cell (by exact n)).trans ((Y j) _ _ h.1);have r:wr.cell? ⟨y,d+b*4+1,none⟩=some (.string l[b].val):=(a.cell (by exact n)).trans (by rw[aP];exact(Y j) _ _ h.2.1);have s:wr.cell? ⟨y,d+b*4+2,none⟩=some (.bool l[b].del):=(a.cell (by exact n)).trans (by rw[aP];exact(Y j) _ _ h.2.2.1);have t:wr.cell? ⟨y,d+b*4+3,none⟩=some (.int .u64 l[b].bV):=(a.cell (by exact n)).trans (by rw[aP];exact(Y j) _ _ h.2.2.2);clear h a;have f:=S l[b] k;have m:=Z (show(An l[b].key k==0)=decide (∃p:b<l.length,l[b].key=k)by rw[NP];exact decide_eq_decide.2 ⟨λp=>⟨u,p⟩,λ⟨_,p⟩=>p⟩);have x:=Z ((Y w) _ (Y m).symm);clear w m;generalize l[b]=ad at*;obtain⟨D,xv,xd,xb⟩:=ad;simp only at q r s t x;simp only[E.value]at f;generalize An D k=W at*;go_wp2_with(go_at_call 163;refine(f _).mono ?_;rintro V U⟨rfl,e⟩;have g:=Z e;clear e)
    go_ret2
    exact⟨Y x,(Y o).trans ((Y g).mono (Y o).size)⟩
   ·have B:b=l.length:=by omega
    have m:decide (∃p:b<l.length,l[b].key=k)=false:=by simp;intro p;omega
    have x:=Z ((Y w) _ m);clear w m;go_wp2;go_ret2
    exact⟨Y x,Y o⟩
def EF(k:aa)(w:J):Calls prog 162 #[.slice none 0 0,.string k,.func (.func 163) #[] #[]] w λe a=>
 e=.returned (.tuple #[.int .i64 0,.bool false])/\a=w:=by
 go_enter func162,ntmps162
 go_wp2
 go_loop [9,10] (λi j=>i=.int .i64 0/\j=.int .i64 0) (λ_ _=>0)
 case atStart=>exact⟨rfl,rfl⟩
 case round=>
  obtain⟨rfl,rfl⟩:=hrel;go_wp2;go_ret2
  exact⟨rfl,rfl⟩
def vX(v:M)(l:List E)(k:aa)(w:J)(o:nT w v l)(j:fG l)(h:l.length<=1000000000000)(f:∀e,v.ownBlock=some e->e<w.heap.size):Calls prog 109 #[v,.string k] w λn t=>
 n=.returned (.tuple #[.int .i64 (pos l k),.bool (decide (∃o:pos l k<l.length,l[pos l k].key=k))])/\Below w.heap.size w t:=by
 obtain⟨r,⟨rfl,q⟩|⟨e,d,b,rfl,s,g⟩⟩:=o
 ·obtain rfl:l=[]:=aG q;have c:=EF;go_enter func109,ntmps109
  go_wp2_with(go_at_call 162;refine(c _ _).mono ?_;rintro n u⟨rfl,rfl⟩)
  go_ret2
  exact⟨by simp[pos],Below.refl _ _⟩
 ·have c:=EG l e d b k w j h (f e rfl) g;clear g j h f r;generalize pos l k=p at*;generalize decide (∃o:p<l.length,l[p].key=k)=B at*;go_enter func109,ntmps109
  go_wp2_with(go_at_call 162;refine c.mono ?_;rintro n u⟨rfl,a⟩;have m:=Z a;clear a)
  go_ret2
  exact⟨rfl,Y m⟩
def dY.same{V:gz}{n0:Nat}{S:Nat->Prop}{w w':J}{b:Nat}{v:M}{t:TypeId}(h:dY w b v t)(hs:ia V n0 S w w')(a:S b):dY w' b v t:=(hs.2 b (.inr a)).trans h
def tv(c a b:Nat)(v:M)(k:Nat):Prop:=k=a\/k=b\/(v.ownBlock=some k/\c<=k)
structure CL(V:gz)(n0:Nat)(w:J)(xi xl:Nat)(v:M)(l:List E)(i:Nat):Prop where
 bi:dY w xi (.int .i64 i) 3
 bl:dY w xl v 102
 PC:nT w v l
 il:xi≠xl
 own:∀k,v.ownBlock=some k->k≠xi/\k≠xl/\¬V.F k/\k<w.heap.size
def CL.PB{V:gz}{a:Nat}{w f:J}{g h:Nat}{v:M}{p:List E}{r:Nat}(o:CL V a w g h v p r)(m:ia V a (tv a g h v) w f):nT f v p:=by
 have n:=o.own;obtain⟨e,⟨rfl,j⟩|⟨i,d,b,rfl,c,k⟩⟩:=o.PC
 ·exact⟨e,.inl ⟨rfl,j⟩⟩
 ·refine⟨e,.inr ⟨i,d,b,rfl,c,λs u l=>m.cell ?_ (k s u l)⟩⟩;by_cases q:a<=i
  ·exact .inl (.inr (.inr ⟨rfl,q⟩))
  ·exact .inr ⟨by omega,(n i rfl).2.2.1⟩
def Jw(V:gz)(e a g:Nat)(A:M)(m:List E)(hl:m.length<=1000000000000):∀(ac k:Nat)(W:J),ac=m.length-k->k<=m.length->CL V e W a g A m k->re V e (tv e a g A) W->Bo V e 284 #[.pointer (some ⟨a,0,none⟩),.pointer (some ⟨g,0,none⟩)] (m.drop k) (tv e a g A) W:=by
 intro ac;induction ac with
 |zero=>
  intro k W G R f o;have b:k=m.length:=by omega
  subst b;rw[eJ];refine⟨o,λc h t=>?_⟩;have h0:=(f.bi.same h (.inl rfl)).cell;have Q:=(f.bl.same h (.inr (.inl rfl))).cell;have D:=Z (λd(an:I (tv e a g A) c d)=>V.dF t an o.apart);have e0:=ak (f.bi.same h (.inl rfl));have e1:=ak (f.bl.same h (.inr (.inl rfl)));obtain⟨X,i,n⟩:=bA f.PC;rw[n]at Q;clear f h t G R n;go_enter func284,ntmps284
  go_wp2;refine bO (ez rfl _ _ c.heap.size ⟨⟨#[]⟩,⟨#[]⟩,false,0⟩ _ _ rfl (az _ rfl)) rfl ?_;refine⟨rfl,?_⟩;have q:I (tv e a g A) c (c.alloc (.cells #[.string ⟨#[]⟩,.string ⟨#[]⟩,.bool false,.int .u64 0] 177)):=(I.refl _ _).alloc _;exact⟨(Y D) _ q,q.mono (λX n=>.inl (.inl n))⟩
 |succ ac S=>
  intro k W G R f o;have x:k<m.length:=by omega
  rw[bm x];refine⟨o,λc h t=>?_⟩;have j:=f.bi.same h (.inl rfl);have l:=f.bl.same h (.inr (.inl rfl));have h0:=j.cell;have al:=j.free;have Q:=l.cell;have hE:=f.PB h;have N:=f.own;have U:=f.il;have D:=Z (λd(an:I (tv e a g A) c d)=>V.dF t an o.apart);have HI:=Z (λd(b:CL V e d a g A m (k+1))(c:re V e (tv e a g A) d)=>S (k+1) d (by omega) (by omega) b c);have HO:=Z (o.same h);have HS:=Z h.1;clear f h t G S o;obtain⟨u,⟨rfl,ad⟩|⟨s,b,i,rfl,w,r⟩⟩:=hE
  ·omega
  have v:=dP m k x;have y:c.cell? ⟨s,b+k*4,none⟩=some (.string m[k].key):=r _ _ v.1;have H:c.cell? ⟨s,b+k*4+1,none⟩=some (.string m[k].val):=by rw[aP];exact r _ _ v.2.1
  have K:c.cell? ⟨s,b+k*4+2,none⟩=some (.bool m[k].del):=by rw[aP];exact r _ _ v.2.2.1
  have L:c.cell? ⟨s,b+k*4+3,none⟩=some (.int .u64 m[k].bV):=by rw[aP];exact r _ _ v.2.2.2
  have e0:=ak j;have e1:=ak l;have e2:s<c.heap.size:=cI _ _ y;have n1:a≠s:=λP=>(N s rfl).1 P.symm;have HE:=Z (show Row c 4 (.slice (some ⟨s,b,none⟩) m.length i) m.length (aF m)from⟨u,.inr ⟨s,b,i,rfl,w,r⟩⟩);have C:=Z l;have B:=Z j;have HV:=Z N;clear v j l r N u w;generalize m[k]=X at*;obtain⟨xk,xv,xd,xb⟩:=X;simp only at y H K L;go_enter func284,ntmps284
  go_wp2;refine bO (ez rfl _ _ c.heap.size ⟨xk,xv,xd,xb⟩ _ _ rfl (az _ gp.symm)) rfl ?_;refine⟨rfl,?_⟩;have q:I (λO=>O=a) c ((c.setCell ⟨a,0,none⟩ (.int .i64 (k+1))).alloc (.cells #[.string xk,.string xv,.bool xd,.int .u64 xb] 177)):=((I.refl (λO=>O=a) c).setCell a 0 _ (.inl rfl)).alloc _;have z:I (tv e a g (.slice (some ⟨s,b,none⟩) m.length i)) c _:=q.mono (T:=tv e a g (.slice (some ⟨s,b,none⟩) m.length i)) (λX n=>.inl (.inl n));refine⟨(Y D) _ z,z.mono (λX n=>.inl (.inl n)),tv e a g _,λO F=>.inl F,(Y HI) _ ?_ ((Y HO).ay q)⟩;refine⟨((Y B).set _).alloc _,((Y C).other _ (λP=>U P.symm)).alloc _,q.row (Y HE) ?_,U,λO F=>?_⟩
  ·rintro O⟨⟩;exact⟨λP=>n1 P.symm,e2⟩
  ·obtain⟨q1,q2,q3,q4⟩:=(Y HV) O F;exact⟨q1,q2,q3,ah q4 (aB (Y HS) q.size)⟩
def En(V:gz)(h:Nat)(K:M)(l:List E)(d:aa)(w:J)(D:nT w K l)(B:fG l)(F:l.length<=1000000000000)(r:∀k,K.ownBlock=some k->¬V.F k/\k<w.heap.size)(X:h<=w.heap.size)(hF:∀k,V.F k->k<h):Calls prog 282 #[K,.string d] w λv N=>∃L S,v=.returned L/\gy V h L (eX d l) S N/\Below w.heap.size w N/\(∀k,S k->(K.ownBlock=some k/\h<=k)\/w.heap.size<=k):=by
 have G:=λW(j:Below w.heap.size w W)=>vX K l d W (by
  obtain⟨m,⟨rfl,y⟩|⟨x,c,a,rfl,g,z⟩⟩:=D
  ·exact⟨m,.inl ⟨rfl,y⟩⟩
  ·exact⟨m,.inr ⟨x,c,a,rfl,g,λH U A=>(j.cell (p:=⟨x,c+H,none⟩) (r x rfl).2).trans (z H U A)⟩⟩) B F (λb n=>ah (r b n).2 j.size)
 have R:=Z G;have s:=Z (show eX d l=l.drop (pos l d)from(B.cut d).2.symm);have t:=Z (Le l d);have C:=bA D;have Q:=Z D;have u:=Z r;have P:=Z hF;clear G r D B hF;generalize pos l d=p at*;generalize decide (∃D:p<l.length,l[p].key=d)=ac at*;obtain⟨W,a,rfl⟩:=C;go_enter func282,ntmps282
 go_wp2_with(go_at_call 109;refine((Y R) _ ((Below.refl _ w).alloc (ai _) _)).mono ?_;rintro v i⟨rfl,o⟩;have O:=Z o;clear o)
 go_ret;have n:=Y O;have T:w.heap.size+1<=i.heap.size:=by have:=n.size;simpa using this
 have e:Below w.heap.size w i:=((Below.refl _ w).alloc (ai _) _).trans (n.mono (by simp));have b:Below w.heap.size w (i.alloc (.cells #[.int .i64 p] 3)):=e.alloc e.size _;have q:dY i w.heap.size (.slice W l.length a) 102:=(n.block w.heap.size (by simp)).trans (az _ rfl);refine⟨_,tv h i.heap.size w.heap.size (.slice W l.length a),rfl,⟨284,_,rfl,enters_of func284 (by kernel_rfl) rfl,?_⟩,b,?_⟩
 ·rw[Y s];refine Jw V h i.heap.size w.heap.size (.slice W l.length a) l F _ p _ rfl (Y t) ⟨az _ rfl,q.alloc _,?_,by omega,λk f=>?_⟩ ⟨by simp;omega,Y P,λk f=>?_⟩
  ·obtain⟨m,⟨v,y⟩|⟨x,c,j,v,g,z⟩⟩:=Y Q
   ·exact⟨m,.inl ⟨v,y⟩⟩
   ·refine⟨m,.inr ⟨x,c,j,v,g,λH U A=>(b.cell (p:=⟨x,c+H,none⟩) ?_).trans (z H U A)⟩⟩;exact((Y u) x (by rw[v];rfl)).2
  ·obtain⟨j,q2⟩:=(Y u) k f;exact⟨by omega,by omega,j,by simp;omega⟩
  ·rcases f with rfl|rfl|⟨f,j⟩
   ·exact⟨by omega,by simp⟩
   ·exact⟨by omega,by simp;omega⟩
   ·exact⟨j,by have:=((Y u) k f).2;simp;omega⟩
 ·rintro k(rfl|rfl|f)
  ·right;omega
  ·right;omega
  ·left;exact f
def nA{σ:Type}(a:σ->E->Bool)(yV:σ->E->σ):σ->List E->List E
 |_,[]=>[]
 |s,x::r=>if a s x then x::nA a yV (yV s x) r else nA a yV (yV s x) r
structure wE(σ:Type)(V:gz)(n0:Nat)where
 f:Nat
 cb:Array M
 test:σ->E->Bool
 yV:σ->E->σ
 inv:σ->J->Prop
 S:Nat->Prop
 Kj:Enters prog f
 call:∀s x w,inv s w->Calls prog f (#[x.value]++cb) w λe w'=>e=.returned (.bool (test s x))/\inv (yV s x) w'/\I S w w'
 dF:∀s w w',inv s w->(∀k,S k->w'.heap[k]?=w.heap[k]?)->inv s w'
 lt:∀s w,inv s w->∀k,S k->n0<=k/\k<w.heap.size
structure jt{σ:Type}{V:gz}{n0:Nat}(K:wE σ V n0)(w:J)(xn xk f:Nat)(cb:Array M)(s:σ)(l:List E)(S:Nat->Prop):Prop where
 bn:dY w xn (.func (.func f) #[] cb) 187
 bk:dY w xk (.func (.func K.f) #[] K.cb) 250
 Kj:Enters prog f
 run:Bo V n0 f cb l S w
 inv:K.inv s w
 own:n0<=xn/\n0<=xk
 nS:∀k,S k->k≠xn/\k≠xk/\¬K.S k
 nK:∀k,K.S k->k≠xn/\k≠xk
def vH{σ:Type}{V:gz}{a:Nat}(K:wE σ V a)(c b:Nat)(S:Nat->Prop)(k:Nat):Prop:=k=c\/k=b\/S k\/K.S k
def jt.same{σ:Type}{V:gz}{n0:Nat}{K:wE σ V n0}{w w':J}{c b f:Nat}{d:Array M}{s:σ}{l:List E}{S:Nat->Prop}(h:jt K w c b f d s l S)(hs:ia V n0 (vH K c b S) w w'):jt K w' c b f d s l S:=⟨h.bn.same hs (.inl rfl),h.bk.same hs (.inr (.inl rfl)),h.Kj,h.run.same (hs.mono (λ_ a=>.inr (.inr (.inl a)))),K.dF s w w' h.inv (λk a=>hs.2 k (.inr (.inr (.inr (.inr a))))),h.own,h.nS,h.nK⟩
def jt.lN{σ:Type}{V:gz}{n0:Nat}{K:wE σ V n0}{w:J}{d c f:Nat}{e:Array M}{s:σ}{l:List E}{S:Nat->Prop}(h:jt K w d c f e s l S):re V n0 (vH K d c S) w:=⟨h.run.own.size,h.run.own.aH,by
 rintro k(rfl|rfl|a|a)
 ·exact⟨h.own.1,ak h.bn⟩
 ·exact⟨h.own.2,ak h.bk⟩
 ·exact h.run.own.each k a
 ·exact K.lt s w h.inv k a⟩
def jt.Kv{σ:Type}{V:gz}{n:Nat}{K:wE σ V n}{w f:J}{e d p:Nat}{j:Array M}{s:σ}{u o:List E}{S g:Nat->Prop}(h:jt K w e d p j s u S)(m:I (λk=>S k\/V.F k) w f)(r:∀k,g k->S k\/w.heap.size<=k)(t:Bo V n p j o g f):jt K f e d p j s o g:=by
 have q:=h.lN;have hF:∀k,n<=k->¬V.F k:=λk a c=>by have:=q.aH k c;omega
 refine⟨(m.block e (ak h.bn) ?_).trans h.bn,(m.block d (ak h.bk) ?_).trans h.bk,h.Kj,t,K.dF s w f h.inv (λk a=>m.block k (K.lt s w h.inv k a).2 ?_),h.own,λk a=>?_,h.nK⟩
 ·rintro(c|c)
  ·exact(h.nS e c).1 rfl
  ·exact hF e h.own.1 c
 ·rintro(c|c)
  ·exact(h.nS d c).2.1 rfl
  ·exact hF d h.own.2 c
 ·rintro(c|c)
  ·exact(h.nS k c).2.2 a
  ·exact hF k (K.lt s w h.inv k a).1 c
 ·rcases r k a with c|c
  ·exact h.nS k c
  ·refine⟨?_,?_,?_⟩
   ·rintro rfl;have:=ak h.bn;omega
   ·rintro rfl;have:=ak h.bk;omega
   ·intro l;have:=(K.lt s w h.inv k l).2;omega
def jt.kept{σ:Type}{V:gz}{n:Nat}{K:wE σ V n}{w g:J}{d c f:Nat}{j:Array M}{s o:σ}{l:List E}{S:Nat->Prop}(h:jt K w d c f j s l S)(e:I K.S w g)(r:K.inv o g):jt K g d c f j o l S:=by
 have q:=h.lN;have hF:∀k,n<=k->¬V.F k:=λk b c=>by have:=q.aH k c;omega
 refine⟨(e.block d (ak h.bn) (λp=>(h.nK d p).1 rfl)).trans h.bn,(e.block c (ak h.bk) (λp=>(h.nK c p).2 rfl)).trans h.bk,h.Kj,h.run.same ?_,r,h.own,h.nS,h.nK⟩;refine e.same h.run.own.size (λk b=>⟨(h.run.own.each k b).2,(h.nS k b).2.2⟩) (λk b t=>?_);have:=(K.lt s w h.inv k b).1;omega
def jt.laid{σ:Type}{V:gz}{n0:Nat}{K:wE σ V n0}{w:J}{e d g:Nat}{a:Array M}{s:σ}{l:List E}{S:Nat->Prop}(h:jt K w e d g a s l S)(o:Obj):jt K (w.alloc o) e d g a s l S:=h.kept ((I.refl _ _).alloc o) (K.dF s w _ h.inv (λk f=>dL o (K.lt s w h.inv k f).2))
def jt.apart{σ:Type}{V:gz}{n0:Nat}{K:wE σ V n0}{w w':J}{c b f:Nat}{d:Array M}{s:σ}{m:List E}{S T:Nat->Prop}(h:jt K w c b f d s m S)(l:I T w w')(e:∀k,T k->¬vH K c b S k/\n0<=k):jt K w' c b f d s m S:=h.same (l.same h.run.own.size (λk a=>⟨(h.lN.each k a).2,λn=>(e k n).1 a⟩) (λk a g=>by have:=(e k a).2;omega))
def qK(w:J)(b:Nat)(y:E):J:=(((w.setCell ⟨b,0,none⟩ (.string y.key)).setCell ⟨b,1,none⟩ (.string y.val)).setCell ⟨b,2,none⟩ (.bool y.del)).setCell ⟨b,3,none⟩ (.int .u64 y.bV)
def gq(w:J)(b:Nat)(y:E):I (λk=>k=b) w (qK w b y):=((((I.refl (λk=>k=b) w).setCell b 0 _ (.inl rfl)).setCell b 1 _ (.inl rfl)).setCell b 2 _ (.inl rfl)).setCell b 3 _ (.inl rfl)
def Pg(w:J)(b:Nat)(y:E):(qK w b y).heap.size=w.heap.size:=by unfold qK;simp[World.setCell]
def uo{σ:Type}(br:gz)(n0:Nat)(K:wE σ br n0)(xn xk ce:Nat)(cj:Array M)(dc:σ)(cc:List E)(cT:Nat->Prop)(w:J)(hA:jt K w xn xk ce cj dc cc cT)(hD:br.D w):Calls prog 189 #[.pointer (some ⟨xn,0,none⟩),.pointer (some ⟨xk,0,none⟩)] w λck bq=>br.D bq/\I (λn=>vH K xn xk cT n\/br.F n) w bq/\((nA K.test K.yV dc cc=[]/\ck=.returned (.tuple #[tQ,.bool false,.nilIface]))\/(∃cb x U S',nA K.test K.yV dc cc=cb::nA K.test K.yV x U/\ck=.returned (.tuple #[cb.value,.bool true,.nilIface])/\jt K bq xn xk ce cj x U S'/\U.length<cc.length/\(∀n,S' n->cT n\/w.heap.size<=n))):=by
 have eg:∀q w,(callFunc ce q).run prog w=.ok (.enter ce q) w:=hA.Kj;have ek:∀q w,(callFunc K.f q).run prog w=.ok (.enter K.f q) w:=K.Kj;have HA:=Z hA;have HD:=Z hD;clear hA hD;go_enter func189,ntmps189
 go_wp2;go_loopg [5] (cc.length+1) (λa _ wr=>∃x U S',U.length<a/\jt K wr xn xk ce cj x U S'/\br.D wr/\I (λn=>vH K xn xk cT n\/br.F n) w wr/\nA K.test K.yV dc cc=nA K.test K.yV x U/\(∀n,S' n->cT n\/w.heap.size+1<=n)/\U.length<=cc.length/\fX wr w.heap.size ⟨⟨#[]⟩,⟨#[]⟩,false,0⟩/\¬S' w.heap.size/\¬K.S w.heap.size)
 case atStart=>
  have h:=(Y HA);refine⟨dc,cc,cT,by omega,h.laid _,br.dF (Y HD) ((I.refl (λ_=>False) w).alloc _) (λ_ l=>l.elim),(I.refl _ _).alloc _,rfl,λn f=>.inl f,ai _,az _ rfl,λl=>?_,λl=>?_⟩
  ·have:=(h.run.own.each _ l).2;omega
  ·have:=(K.lt _ _ h.inv _ l).2;omega
 case round=>
  obtain⟨x,U,S',bn,C,X,al,Q,ad,bo,ac,an,bp⟩:=hrel;have dk:=C.bn.cell;have v:=C.run;cases U with
  |nil=>
   have hc:=v.2 wr (ia.refl _ _ _ _) X;have HN:=Z an;have y:=Z C;have W:=Z al;have A:=Z Q;have z:=Z ac;have B:=Z ad;clear v C X al Q ac ad an bp bn bo;go_wp2_with(go_at_fn ce;refine hc.mono ?_;rintro ck s⟨rfl,r,j⟩;have h:fX s w.heap.size ⟨⟨#[]⟩,⟨#[]⟩,false,0⟩:=(Y z).ay j (λl=>l.elim (Y HN) (λl=>by have:=(Y y).lN.aH _ l;have:=(Y HA).lN.size;omega));have T:=h.cells;have ao:=h.free (i:=0);have ax:=h.free (i:=1);have ba:=h.free (i:=2);have bb:=h.free (i:=3);have a:=ak h;have H:=Z h;have G:=Z r;have N:=Z j;clear h r j;unfold tQ;obtain⟨bt,bv,bx,bT⟩:=T)
   refine bO (ez rfl _ _ w.heap.size ⟨⟨#[]⟩,⟨#[]⟩,false,0⟩ _ _ rfl (((Y H).put ⟨⟨#[]⟩,⟨#[]⟩,false,0⟩).alloc _)) rfl ?_;have D:I (λn=>n=w.heap.size) s ((qK s w.heap.size ⟨⟨#[]⟩,⟨#[]⟩,false,0⟩).alloc (.cells #[.string ⟨#[]⟩,.string ⟨#[]⟩,.bool false,.int .u64 0] 177)):=(gq _ _ _).alloc _;have p:=(Y HA).lN;refine⟨br.dF (Y G) D (λn f hf=>by have:=p.aH n hf;have:=p.size;omega),?_,.inl ⟨(Y A).trans rfl,rfl⟩⟩;refine((Y W).trans (Y N) ?_).trans D (λn f=>.inr (by omega));rintro n(f|f)
   ·rcases(Y B) n f with l|l
    ·exact .inl (.inl (.inr (.inr (.inl l))))
    ·exact .inr (by omega)
   ·exact .inl (.inr f)
  |cons cb ch=>
   have hc:=v.2 wr (ia.refl _ _ _ _) X;have bs:nA K.test K.yV x (cb::ch)=if K.test x cb then cb::nA K.test K.yV (K.yV x cb) ch else nA K.test K.yV (K.yV x cb) ch:=rfl;rw[bs]at Q;have HN:=Z an;have V:=Z bp;have y:=Z C;have W:=Z al;have A:=Z Q;have z:=Z ac;have B:=Z ad;have ca:ch.length<cc.length:=by simp at bo;omega
   have db:ch.length+1<gk:=by simpa using bn
   clear v C X al Q ac ad an bp bn bo bs;have k:=K.call x cb;obtain⟨c,d,b,a⟩:=cb;unfold E.value at k hc;simp only at k hc;cases hte:K.test x ⟨c,d,b,a⟩with
   |true=>
    rw[hte]at k;have bf:=Z ((Y A).trans (by rw[dr hte]));clear A hte;go_wp2_with(first
     |(go_at_fn ce;refine hc.mono ?_;rintro ck s⟨rfl,r,j,S1,t,R⟩;have hA1:=(Y y).Kv j t R;have g:=hA1.laid (.cells #[.string c,.string d,.bool b,.int .u64 a] 177);have h:fX s w.heap.size ⟨⟨#[]⟩,⟨#[]⟩,false,0⟩:=(Y z).ay j (λl=>l.elim (Y HN) (λl=>by have:=(Y y).lN.aH _ l;have:=(Y HA).lN.size;omega));have cl:=g.bk.cell;have u:fX (s.alloc (.cells #[.string c,.string d,.bool b,.int .u64 a] 177)) s.heap.size ⟨c,d,b,a⟩:=az _ rfl;have T:=u.cells;have o:=k _ g.inv;have bg:=Z (show¬K.S s.heap.size fromλl=>by have:=(K.lt _ _ hA1.inv _ l).2;omega);have bh:=Z u;have L:=Z t;have F:=Z g;have H:=Z h;have G:=Z r;have N:=Z j;clear h r j hA1 g R t u;obtain⟨bt,bv,bx,bT⟩:=T)
     |(go_at_fn K.f;refine o.mono ?_;rintro ck w2⟨rfl,P,m⟩;have S:fX w2 s.heap.size ⟨c,d,b,a⟩:=(Y bh).ay m (Y bg);have e:fX w2 w.heap.size ⟨⟨#[]⟩,⟨#[]⟩,false,0⟩:=((Y H).alloc _).ay m (Y V);obtain⟨sq,cm,cn,cp⟩:=S.cells;obtain⟨cs,cv,cx,cB⟩:=e.cells;have ao:=e.free (i:=0);have ax:=e.free (i:=1);have ba:=e.free (i:=2);have bb:=e.free (i:=3);have bd:=Z e;have bc:=Z ((Y F).kept m P);have O:=Z m;clear P m S e))
    refine bO (ez rfl _ _ w.heap.size ⟨c,d,b,a⟩ _ _ rfl ((Y bd).put ⟨c,d,b,a⟩)) rfl ?_;have D:I (λn=>n=w.heap.size) w2 (qK w2 w.heap.size ⟨c,d,b,a⟩):=gq _ _ _;have p:=(Y HA).lN;have hA2:=Y bc;have bl:=hA2.lN;have cM:w.heap.size<wr.heap.size:=ak (Y z);have cE:¬vH K xn xk S1 w.heap.size:=by
     rintro(l|l|l|l)
     ·have:=(p.each xn (.inl rfl)).2;omega
     ·have:=(p.each xk (.inr (.inl rfl))).2;omega
     ·rcases(Y L) _ l with cd|cd
      ·exact(Y HN) cd
      ·omega
     ·exact(Y V) l
    have bi:=br.dF (Y G) (((I.refl (λ_=>False) s).alloc (.cells #[.string c,.string d,.bool b,.int .u64 a] 177))) (λ_ l=>l.elim);have bk:=br.dF bi (Y O) (λn f hf=>by have:=bl.aH n hf;have:=(K.lt _ _ (Y F).inv n f).1;omega);refine⟨br.dF bk D (λn f hf=>by have:=p.aH n hf;have:=p.size;omega),?_,.inr ⟨⟨c,d,b,a⟩,K.yV x ⟨c,d,b,a⟩,ch,S1,Y bf,rfl,hA2.apart D (λn f=>by rw[f];exact⟨cE,p.size⟩),ca,λn f=>?_⟩⟩
    ·refine((((Y W).trans (Y N) ?_).alloc _).trans (Y O) ?_).trans D (λn f=>.inr (by omega))
     ·rintro n(f|f)
      ·rcases(Y B) n f with l|l
       ·exact .inl (.inl (.inr (.inr (.inl l))))
       ·exact .inr (by omega)
      ·exact .inl (.inr f)
     ·exactλn f=>.inl (.inl (.inr (.inr (.inr f))))
    ·rcases(Y L) n f with l|l
     ·rcases(Y B) n l with cd|cd
      ·exact .inl cd
      ·exact .inr (by omega)
     ·exact .inr (by omega)
   |false=>
    rw[hte]at k;have bf:=Z ((Y A).trans (by rw[dd (by rw[hte];simp)]));clear A hte;go_wp2_with(first
     |(go_at_fn ce;refine hc.mono ?_;rintro ck s⟨rfl,r,j,S1,t,R⟩;have hA1:=(Y y).Kv j t R;have g:=hA1.laid (.cells #[.string c,.string d,.bool b,.int .u64 a] 177);have h:fX s w.heap.size ⟨⟨#[]⟩,⟨#[]⟩,false,0⟩:=(Y z).ay j (λl=>l.elim (Y HN) (λl=>by have:=(Y y).lN.aH _ l;have:=(Y HA).lN.size;omega));have cl:=g.bk.cell;have u:fX (s.alloc (.cells #[.string c,.string d,.bool b,.int .u64 a] 177)) s.heap.size ⟨c,d,b,a⟩:=az _ rfl;have T:=u.cells;have o:=k _ g.inv;have bg:=Z (show¬K.S s.heap.size fromλl=>by have:=(K.lt _ _ hA1.inv _ l).2;omega);have bh:=Z u;have L:=Z t;have F:=Z g;have H:=Z h;have G:=Z r;have N:=Z j;clear h r j hA1 g R t u;obtain⟨bt,bv,bx,bT⟩:=T)
     |(go_at_fn K.f;refine o.mono ?_;rintro ck w2⟨rfl,P,m⟩;have S:fX w2 s.heap.size ⟨c,d,b,a⟩:=(Y bh).ay m (Y bg);have e:fX w2 w.heap.size ⟨⟨#[]⟩,⟨#[]⟩,false,0⟩:=((Y H).alloc _).ay m (Y V);obtain⟨sq,cm,cn,cp⟩:=S.cells;obtain⟨cs,cv,cx,cB⟩:=e.cells;have ao:=e.free (i:=0);have ax:=e.free (i:=1);have ba:=e.free (i:=2);have bb:=e.free (i:=3);have bd:=Z e;have bc:=Z ((Y F).kept m P);have O:=Z m;clear P m S e))
    go_roundg(ch.length+1);case measure=>omega
    case rel=>
     have p:=(Y HA).lN;have hA2:=Y bc;have bl:=hA2.lN;have cM:w.heap.size<wr.heap.size:=ak (Y z);have bi:=br.dF (Y G) (((I.refl (λ_=>False) s).alloc (.cells #[.string c,.string d,.bool b,.int .u64 a] 177))) (λ_ l=>l.elim);have bk:=br.dF bi (Y O) (λn f hf=>by have:=bl.aH n hf;have:=(K.lt _ _ (Y F).inv n f).1;omega);refine⟨K.yV x ⟨c,d,b,a⟩,ch,S1,by omega,hA2,bk,?_,Y bf,λn f=>?_,by omega,Y bd,λl=>?_,Y V⟩
     ·refine(((Y W).trans (Y N) ?_).alloc _).trans (Y O) ?_
      ·rintro n(f|f)
       ·rcases(Y B) n f with l|l
        ·exact .inl (.inl (.inr (.inr (.inl l))))
        ·exact .inr (by omega)
       ·exact .inl (.inr f)
      ·exactλn f=>.inl (.inl (.inr (.inr (.inr f))))
     ·rcases(Y L) n f with l|l
      ·exact(Y B) n l
      ·exact .inr (by omega)
     ·rcases(Y L) _ l with cd|cd
      ·exact(Y HN) cd
      ·omega
def IV{σ:Type}(V:gz)(j:Nat)(K:wE σ V j)(e d r:Nat)(m:Array M):∀(t:Nat)(s:σ)(n:List E)(S:Nat->Prop)(w:J),n.length<=t->jt K w e d r m s n S->Bo V j 189 #[.pointer (some ⟨e,0,none⟩),.pointer (some ⟨d,0,none⟩)] (nA K.test K.yV s n) (vH K e d S) w:=by
 intro t;induction t with
 |zero=>
  intro s n S w z b;obtain rfl:n=[]:=aG (by omega);refine⟨b.lN,λk i h=>(uo V j K e d r m s [] S k (b.same i) h).mono ?_⟩;rintro B c⟨f,g,⟨_,a⟩|⟨C,q,p,l,a,_⟩⟩
  ·exact⟨a,f,g⟩
  ·cases a
 |succ t A=>
  intro s n S w z b;cases hL:nA K.test K.yV s n with
  |nil=>
   refine⟨b.lN,λk i h=>(uo V j K e d r m s n S k (b.same i) h).mono ?_⟩;rintro B c⟨f,g,⟨_,a⟩|⟨C,q,p,l,a,_⟩⟩
   ·exact⟨a,f,g⟩
   ·rw[hL]at a;cases a
  |cons H G=>
   refine⟨b.lN,λk i h=>(uo V j K e d r m s n S k (b.same i) h).mono ?_⟩;rintro B c⟨f,g,⟨a,_⟩|⟨C,q,p,l,a,v,x,D,y⟩⟩
   ·rw[hL]at a;cases a
   ·rw[hL]at a;obtain⟨rfl,rfl⟩:=tW a;refine⟨v,f,g,vH K e d l,?_,A q p l c (by omega) x⟩;rintro F(o|o|o|o)
    ·exact .inl (.inl o)
    ·exact .inl (.inr (.inl o))
    ·rcases y F o with u|u
     ·exact .inl (.inr (.inr (.inl u)))
     ·exact .inr u
    ·exact .inl (.inr (.inr (.inr o)))
def DD{σ:Type}(V:gz)(e:Nat)(K:wE σ V e)(s:σ)(x:M)(v:List E)(S:Nat->Prop)(w:J)(u:gy V e x v S w)(c:K.inv s w)(h:∀k,S k->¬K.S k):Calls prog 138 #[x,.func (.func K.f) #[] K.cb] w λy n=>∃m g,y=.returned m/\gy V e m (nA K.test K.yV s v) g n/\Below w.heap.size w n/\(∀k,g k->S k\/K.S k\/w.heap.size<=k):=by
 obtain⟨t,f,rfl,j,b⟩:=u;have o:=Z j;have q:=Z b;have p:=Z c;have r:=Z h;clear j b c h;go_enter func138,ntmps138
 go_wp2;go_ret;have b:=Y q;have c:=Y p;have i:Below w.heap.size w ((w.alloc (.cells #[.func (.func t) #[] f] 187)).alloc (.cells #[.func (.func K.f) #[] K.cb] 250)):=((Below.refl _ w).alloc (ai _) _).alloc (by simp) _;have l:I (λ_=>False) w ((w.alloc (.cells #[.func (.func t) #[] f] 187)).alloc (.cells #[.func (.func K.f) #[] K.cb] 250)):=I.aR i;refine⟨_,vH K w.heap.size (w.heap.size+1) S,rfl,⟨189,_,rfl,enters_of func189 (by kernel_rfl) rfl,?_⟩,i,?_⟩
 ·refine IV V e K w.heap.size (w.heap.size+1) t f _ s v S _ (ai _) ⟨?_,az _ (by simp),Y o,b.same (l.same b.own.size (λk a=>⟨(b.own.each k a).2,λd=>d⟩) (λk a=>a.elim)),K.dF s w _ c (λk a=>?_),⟨b.own.size,by have:=b.own.size;omega⟩,λk a=>?_,λk a=>?_⟩
  ·exact(dY.alloc (az _ rfl) _)
  ·exact l.block k (K.lt s w c k a).2 (λd=>d)
  ·have:=(b.own.each k a).2;exact⟨by omega,by omega,(Y r) k a⟩
  ·have:=(K.lt s w c k a).2;exact⟨by omega,by omega⟩
 ·rintro k(d|d|d|d)
  ·exact .inr (.inr (by omega))
  ·exact .inr (.inr (by omega))
  ·exact .inl d
  ·exact .inr (.inl d)
def Lc(V:gz)(b:Nat):wE Unit V b where
 f:=139
 cb:=#[]
 test:=λ_ e=>!e.del
 yV:=λ_ _=>()
 inv:=λ_ _=>True
 S:=λ_=>False
 Kj:=enters_of func139 (by kernel_rfl) rfl
 call:=by
  rintro _⟨e,g,d,c⟩w _;unfold E.value;simp only;have a:∀(x:Bool)(w:J),(Op.unary .not (.bool x)).run prog w=.ok (.bool (!x)) w:=λ_ _=>rfl;show Calls prog 139 #[.agg #[.string e,.string g,.bool d,.int .u64 c]] w _;go_enter func139,ntmps139
  go_wp2;go_ret;exact⟨rfl,trivial,(I.refl _ w).alloc _⟩
 dF:=λ_ _ _ _ _=>trivial
 lt:=λ_ _ _ _ a=>a.elim
def BK(l:List E)(s:Unit):nA (λ(_:Unit)e=>!e.del) (λ_ _=>()) s l=l.filter (λe=>!e.del):=by
 induction l generalizing s with
 |nil=>rfl
 |cons x r a=>
  unfold nA;cases h:x.del with
  |true=>simp[h,a]
  |false=>simp[h,a]
def wW(V:gz)(n0:Nat)(v:M)(l:List E)(S:Nat->Prop)(w:J)(q:gy V n0 v l S w):Calls prog 91 #[v] w λg c=>∃b a,g=.returned b/\gy V n0 b (l.filter (λg=>!g.del)) a c/\Below w.heap.size w c/\(∀k,a k->S k\/w.heap.size<=k):=by
 have o:=DD V n0 (Lc V n0) () v l S w q trivial (λ_ _ h=>h);have p:=BK l ();have j:Calls prog 138 #[v,.func (.func 139) #[] #[]] w λg c=>∃b a,g=.returned b/\gy V n0 b (l.filter (λg=>!g.del)) a c/\Below w.heap.size w c/\(∀k,a k->S k\/w.heap.size<=k):=by
  refine o.mono ?_;rintro g c⟨b,a,u,x,y,z⟩;refine⟨b,a,u,?_,y,λk A=>?_⟩
  ·rw[<-p];exact x
  ·rcases z k A with h|h|h
   ·exact .inl h
   ·exact h.elim
   ·exact .inr h
 clear o p;obtain⟨D,B,rfl,_⟩:=q;go_enter func91,ntmps91
 go_wp2_with(go_at_call 138;refine j.mono ?_;rintro g C⟨b,a,rfl,f,e,d⟩;have s:=Z f;have r:=Z e;have t:=Z d;clear f e d)
 go_ret;exact⟨b,a,rfl,Y s,Y r,Y t⟩
def Ns(V:gz)(j a:Nat):wE aa V j where
 f:=141
 cb:=#[.pointer (some ⟨a,0,none⟩)]
 test:=λs h=>!decide (h.key=s)
 yV:=λ_ h=>h.key
 inv:=λs w=>dY w a (.string s) 9/\j<=a
 S:=λk=>k=a
 Kj:=enters_of func141 (by kernel_rfl) rfl
 call:=by
  rintro s⟨g,q,p,o⟩w⟨d,n⟩;unfold E.value;simp only;have r:=d.cell;have t:=d.free;have m:=ak d;have l:=Z d;clear d;have b:(!(g.toList==s.toList))=!decide (g=s):=by
   congr 1;rw[rW];simp only[ri,lQ];exact⟨Cy,λh=>by rw[h]⟩
  have c:=Z b;clear b;show Calls prog 141 #[.agg #[.string g,.string q,.bool p,.int .u64 o],.pointer (some ⟨a,0,none⟩)] w _;go_enter func141,ntmps141
  go_wp2;go_ret;refine⟨?_,⟨?_,n⟩,?_⟩
  ·rw[<-Y c];rfl
  ·exact((Y l).set _).alloc _
  ·exact((I.refl (λk=>k=a) w).setCell a 0 _ (.inl rfl)).alloc _
 dF:=λs w b i e=>⟨(e a rfl).trans i.1,i.2⟩
 lt:=λs w i k e=>by subst e;exact⟨i.2,ak i.1⟩
def DF(l:List E)(s:aa):nA (λs(e:E)=>!decide (e.key=s)) (λ_ e=>e.key) s l=mZ s l:=by
 induction l generalizing s with
 |nil=>rfl
 |cons x r a=>
  unfold nA mZ;by_cases h:x.key=s
  ·simp[h,a]
  ·simp[h,a]
structure vG(V:gz)(n0:Nat)(ls:List (List E))where
 f:Nat
 cb:Array M
 inv:J->Prop
 S:Nat->Prop
 Kj:Enters prog f
 call:∀i(hi:i<ls.length)w,inv w->V.D w->Calls prog f (#[.int .i64 i]++cb) w λe w'=>∃v' S',e=.returned (.tuple #[v',.nilIface])/\gy V n0 v' ls[i] S' w'/\V.D w'/\I V.F w w'/\(∀k,S' k->w.heap.size<=k)
 dF:∀w w',inv w->ia V n0 S w w'->inv w'
 lt:∀w,inv w->∀k,S k->n0<=k/\k<w.heap.size
structure fT{V:gz}{n0:Nat}{ls:List (List E)}(O:vG V n0 ls)(w:J)(b d h g:Nat)(j:M)(r:List E)(a:Nat)(S:Nat->Prop):Prop where
 br:dY w b j 187
 ba:dY w d (.int .i64 a) 3
 bn:dY w h (.int .i64 ls.length) 3
 bo:dY w g (.func (.func O.f) #[] O.cb) 393
 row:(j=.nilFunc/\r=[]/\∀k,¬S k)\/gy V n0 j r S w
 inv:O.inv w
 le:a<=ls.length
 size:n0<=w.heap.size
 aH:∀k,V.F k->k<n0
 own:n0<=b/\n0<=d/\n0<=h/\n0<=g
 ra:b≠d
 rn:b≠h
 ro:b≠g
 an:d≠h
 ao:d≠g
 nS:∀k,S k->k≠b/\k≠d/\k≠h/\k≠g/\¬O.S k
 nO:∀k,O.S k->k≠b/\k≠d/\k≠h/\k≠g
def jL{V:gz}{n0:Nat}{ls:List (List E)}(O:vG V n0 ls)(b d h g:Nat)(S:Nat->Prop)(k:Nat):Prop:=k=b\/k=d\/k=h\/k=g\/S k\/O.S k
def uc(r:List E)(ls:List (List E))(a:Nat):List E:=r++(ls.drop a).flatten
section
variable{V:gz}{n0:Nat}{ls:List (List E)}{O:vG V n0 ls}{w w':J}{b d h g:Nat}{j:M}{r:List E}{a:Nat}{S:Nat->Prop}
theorem fT.lN(c:fT O w b d h g j r a S):re V n0 (jL O b d h g S) w:=⟨c.size,c.aH,by
 rintro k(rfl|rfl|rfl|rfl|e|e)
 ·exact⟨c.own.1,ak c.br⟩
 ·exact⟨c.own.2.1,ak c.ba⟩
 ·exact⟨c.own.2.2.1,ak c.bn⟩
 ·exact⟨c.own.2.2.2,ak c.bo⟩
 ·rcases c.row with⟨_,_,f⟩|f
  ·exact(f k e).elim
  ·exact f.own.each k e
 ·exact O.lt w c.inv k e⟩
theorem fT.same(c:fT O w b d h g j r a S)(hs:ia V n0 (jL O b d h g S) w w'):fT O w' b d h g j r a S:=⟨c.br.same hs (.inl rfl),c.ba.same hs (.inr (.inl rfl)),c.bn.same hs (.inr (.inr (.inl rfl))),c.bo.same hs (.inr (.inr (.inr (.inl rfl)))),c.row.imp id (λo=>o.same (hs.mono (λ_ e=>.inr (.inr (.inr (.inr (.inl e))))))),O.dF w w' c.inv (hs.mono (λ_ e=>.inr (.inr (.inr (.inr (.inr e)))))),c.le,aB c.size hs.1,c.aH,c.own,c.ra,c.rn,c.ro,c.an,c.ao,c.nS,c.nO⟩
theorem fT.apart{T:Nat->Prop}(m:fT O w b d h g j r a S)(n:I T w w')(l:∀k,T k->¬jL O b d h g S k/\(k<n0->V.F k)):fT O w' b d h g j r a S:=m.same (n.same m.size (λk c=>⟨(m.lN.each k c).2,λo=>(l k o).1 c⟩) (λk c e=>(l k c).2 e))
theorem fT.laid(e:fT O w b d h g j r a S)(o:Obj):fT O (w.alloc o) b d h g j r a S:=e.apart ((I.refl (λ_=>False) w).alloc o) (λ_ c=>c.elim)
theorem fT.Kv{q:List E}{n:Nat->Prop}(c:fT O w b d h g j r a S)(l:I (λk=>S k\/V.F k) w w')(s:∀k,n k->S k\/w.heap.size<=k)(u:gy V n0 j q n w'):fT O w' b d h g j q a n:=by
 have p:=c.lN;have hF:∀k,n0<=k->¬V.F k:=λk e c=>by have:=p.aH k c;omega
 have m:∀k,k=b\/k=d\/k=h\/k=g->¬(S k\/V.F k):=by
  rintro k e(f|f)
  ·have:=c.nS k f;rcases e with rfl|rfl|rfl|rfl
   ·exact this.1 rfl
   ·exact this.2.1 rfl
   ·exact this.2.2.1 rfl
   ·exact this.2.2.2.1 rfl
  ·rcases e with rfl|rfl|rfl|rfl
   ·exact hF _ c.own.1 f
   ·exact hF _ c.own.2.1 f
   ·exact hF _ c.own.2.2.1 f
   ·exact hF _ c.own.2.2.2 f
 refine⟨(l.block b (ak c.br) (m _ (.inl rfl))).trans c.br,(l.block d (ak c.ba) (m _ (.inr (.inl rfl)))).trans c.ba,(l.block h (ak c.bn) (m _ (.inr (.inr (.inl rfl))))).trans c.bn,(l.block g (ak c.bo) (m _ (.inr (.inr (.inr rfl))))).trans c.bo,.inr u,O.dF w w' c.inv (l.same c.size (λk e=>⟨(O.lt w c.inv k e).2,?_⟩) (λk e t=>?_)),c.le,aB c.size l.size,c.aH,c.own,c.ra,c.rn,c.ro,c.an,c.ao,λk e=>?_,c.nO⟩
 ·rintro(f|f)
  ·exact(c.nS k f).2.2.2.2 e
  ·exact hF k (O.lt w c.inv k e).1 f
 ·rcases e with f|f
  ·have:=(p.each k (.inr (.inr (.inr (.inr (.inl f)))))).1;omega
  ·exact f
 ·rcases s k e with f|f
  ·exact c.nS k f
  ·refine⟨?_,?_,?_,?_,?_⟩
   ·rintro rfl;have:=ak c.br;omega
   ·rintro rfl;have:=ak c.ba;omega
   ·rintro rfl;have:=ak c.bn;omega
   ·rintro rfl;have:=ak c.bo;omega
   ·intro o;have:=(O.lt w c.inv k o).2;omega
theorem fT.ended(c:fT O w b d h g j r a S)(l:I (λk=>S k\/V.F k) w w'):fT O (w'.setCell ⟨b,0,none⟩ .nilFunc) b d h g .nilFunc [] a (λ_=>False):=by
 have u:=c.lN;have hF:∀k,n0<=k->¬V.F k:=λk e c=>by have:=u.aH k c;omega
 have m:∀k,k=b\/k=d\/k=h\/k=g->¬(S k\/V.F k):=by
  rintro k e(f|f)
  ·have:=c.nS k f;rcases e with rfl|rfl|rfl|rfl
   ·exact this.1 rfl
   ·exact this.2.1 rfl
   ·exact this.2.2.1 rfl
   ·exact this.2.2.2.1 rfl
  ·rcases e with rfl|rfl|rfl|rfl
   ·exact hF _ c.own.1 f
   ·exact hF _ c.own.2.1 f
   ·exact hF _ c.own.2.2.1 f
   ·exact hF _ c.own.2.2.2 f
 have q:dY w' b j 187:=(l.block b (ak c.br) (m _ (.inl rfl))).trans c.br;have n:dY w' d (.int .i64 a) 3:=(l.block d (ak c.ba) (m _ (.inr (.inl rfl)))).trans c.ba;have o:dY w' h (.int .i64 ls.length) 3:=(l.block h (ak c.bn) (m _ (.inr (.inr (.inl rfl))))).trans c.bn;have p:dY w' g (.func (.func O.f) #[] O.cb) 393:=(l.block g (ak c.bo) (m _ (.inr (.inr (.inr rfl))))).trans c.bo;have s:I (λk=>(S k\/V.F k)\/k=b) w (w'.setCell ⟨b,0,none⟩ .nilFunc):=(l.mono (T:=λk=>(S k\/V.F k)\/k=b) (λk e=>.inl (.inl e))).setCell b 0 _ (.inl (.inr rfl));refine⟨q.set _,n.other _ (λt=>c.ra t.symm),o.other _ (λt=>c.rn t.symm),p.other _ (λt=>c.ro t.symm),.inl ⟨rfl,rfl,λ_ f=>f⟩,O.dF w _ c.inv (s.same c.size (λk e=>⟨(O.lt w c.inv k e).2,?_⟩) (λk e v=>?_)),c.le,by rw[gp];exact aB c.size l.size,c.aH,c.own,c.ra,c.rn,c.ro,c.an,c.ao,λ_ f=>f.elim,c.nO⟩
 ·rintro((f|f)|f)
  ·exact(c.nS k f).2.2.2.2 e
  ·exact hF k (O.lt w c.inv k e).1 f
  ·exact(c.nO k e).1 f
 ·rcases e with(f|f)|f
  ·have:=(u.each k (.inr (.inr (.inr (.inr (.inl f)))))).1;omega
  ·exact f
  ·have:=c.own.1;subst f;omega
theorem fT.opened{t:M}{q:Nat->Prop}(B:a<ls.length)(c:fT O w b d h g .nilFunc [] a S)(l:I V.F w w')(D:gy V n0 t ls[a] q w')(F:∀k,q k->w.heap.size<=k):fT O ((w'.setCell ⟨b,0,none⟩ t).setCell ⟨d,0,none⟩ (.int .i64 ((a:Int)+1))) b d h g t ls[a] (a+1) q:=by
 have hF:∀k,n0<=k->¬V.F k:=λk e f=>by have:=c.aH k f;omega
 have C:∀k,q k->k≠b/\k≠d/\k≠h/\k≠g/\¬O.S k:=λk e=>by
  have:=F k e;have G:=ak c.br;have H:=ak c.ba;have K:=ak c.bn;have L:=ak c.bo;exact⟨by omega,by omega,by omega,by omega,λp=>by have:=(O.lt w c.inv k p).2;omega⟩
 have A:dY w' b .nilFunc 187:=(l.block b (ak c.br) (hF _ c.own.1)).trans c.br;have v:dY w' d (.int .i64 a) 3:=(l.block d (ak c.ba) (hF _ c.own.2.1)).trans c.ba;have y:dY w' h (.int .i64 ls.length) 3:=(l.block h (ak c.bn) (hF _ c.own.2.2.1)).trans c.bn;have z:dY w' g (.func (.func O.f) #[] O.cb) 393:=(l.block g (ak c.bo) (hF _ c.own.2.2.2)).trans c.bo;have m:O.inv w':=O.dF w w' c.inv (l.same c.size (λk e=>⟨(O.lt w c.inv k e).2,hF k (O.lt w c.inv k e).1⟩) (λk e _=>e));have o:I (λk=>k=b\/k=d) w' ((w'.setCell ⟨b,0,none⟩ t).setCell ⟨d,0,none⟩ (.int .i64 ((a:Int)+1))):=((I.refl (λk=>k=b\/k=d) w').setCell b 0 _ (.inl (.inl rfl))).setCell d 0 _ (.inl (.inr rfl));have f:n0<=w'.heap.size:=aB c.size l.size;have n:∀k,(k=b\/k=d)->k<n0->V.F k:=by
  rintro k(rfl|rfl)p
  ·have:=c.own.1;omega
  ·have:=c.own.2.1;omega
 refine⟨(A.set _).other _ c.ra,(v.other _ (λs=>c.ra s.symm)).set _,(y.other _ (λs=>c.rn s.symm)).other _ (λs=>c.an s.symm),(z.other _ (λs=>c.ro s.symm)).other _ (λs=>c.ao s.symm),.inr (D.same (o.same f (λk e=>⟨(D.own.each k e).2,?_⟩) n)),O.dF w' _ m (o.same f (λk e=>⟨(O.lt w' m k e).2,?_⟩) n),B,by rw[gp,gp];exact f,c.aH,c.own,c.ra,c.rn,c.ro,c.an,c.ao,C,c.nO⟩
 ·rintro(p|p)
  ·exact(C k e).1 p
  ·exact(C k e).2.1 p
 ·rintro(p|p)
  ·exact(c.nO k e).1 p
  ·exact(c.nO k e).2.1 p
end
def nn{P:Program}{w:J}{b:Nat}{u:M}{t:TypeId}(h:dY w b u t)(v:M)(d:v.oneCell'=true):(store ⟨b,0,none⟩ v).run P w=.ok () (w.setCell ⟨b,0,none⟩ v):=by
 have a:=h.cell;have c:=h.free;rw[run_store P w _ _ _ d];simp[a,c]
abbrev zE:E:=⟨⟨#[]⟩,⟨#[]⟩,false,0⟩
def Bg{V:gz}{m:Nat}{u:List (List E)}{O:vG V m u}{g d e f:Nat}{n:M}{y:List E}{v:Nat}{S h:Nat->Prop}{w a:J}(j:re V m (jL O g d e f S) w)(p:fT O a g d e f n y v h)(q:V.D a)(s:I (λk=>jL O g d e f S k\/V.F k) w a)(r:¬jL O g d e f h w.heap.size)(x:E)(o:Obj):V.D ((qK a w.heap.size x).alloc o)/\I (λk=>jL O g d e f S k\/V.F k) w ((qK a w.heap.size x).alloc o)/\fT O ((qK a w.heap.size x).alloc o) g d e f n y v h:=by
 have c:I (λk=>k=w.heap.size) a ((qK a w.heap.size x).alloc o):=(gq _ _ _).alloc o;refine⟨V.dF q c (λk l t=>by have:=j.aH k t;have:=j.size;omega),s.trans c (λk l=>.inr (by omega)),p.apart c (λk l=>?_)⟩;subst l;exact⟨r,λc=>by have:=j.size;omega⟩
def xD(bn:gz)(n0:Nat)(L:List (List E))(bT:vG bn n0 L)(e q xn xo:Nat)(rv:M)(en:List E)(em:Nat)(ds:Nat->Prop)(C:J)(hA:fT bT C e q xn xo rv en em ds)(hD:bn.D C)(ev:L.length<=1000000000000):Calls prog 293 #[.pointer (some ⟨e,0,none⟩),.pointer (some ⟨q,0,none⟩),.pointer (some ⟨xn,0,none⟩),.pointer (some ⟨xo,0,none⟩)] C λdv cl=>bn.D cl/\I (λk=>jL bT e q xn xo ds k\/bn.F k) C cl/\((uc en L em=[]/\dv=.returned (.tuple #[tQ,.bool false,.nilIface]))\/(∃x al r' s S',uc en L em=x::uc r' L s/\dv=.returned (.tuple #[x.value,.bool true,.nilIface])/\fT bT cl e q xn xo al r' s S'/\(∀k,S' k->ds k\/C.heap.size<=k))):=by
 have fb:∀a C,(callFunc bT.f a).run prog C=.ok (.enter bT.f a) C:=bT.Kj;have ex:∀C,(binOp .eql 187 .nilFunc .nilFunc).run prog C=.ok (.bool true) C:=λ_=>rfl;have ey:∀f a C,(binOp .eql 187 (.func f #[] a) .nilFunc).run prog C=.ok (.bool false) C:=λ_ _ _=>rfl;have cj:=hA.lN;have D:=Z cj;have cv:∀k,n0<=k->¬bn.F k:=λk B hf=>by have:=cj.aH k hf;omega
 have p:=Z cv;have HA:=Z hA;have HD:=Z hD;clear hA hD cj cv;go_enter func293,ntmps293
 go_wp2;go_loopg [9] (2*(L.length-em)+2) (λa _ wr=>∃al r' s S' b,2*(L.length-s)+b<a/\((al=.nilFunc/\r'=[])\/(b=1/\gy bn n0 al r' S' wr))/\fT bT wr e q xn xo al r' s S'/\bn.D wr/\I (λk=>jL bT e q xn xo ds k\/bn.F k) C wr/\uc en L em=uc r' L s/\(∀k,S' k->ds k\/C.heap.size+1<=k)/\fX wr C.heap.size zE/\¬jL bT e q xn xo S' C.heap.size)
 case atStart=>
  have h:=Y HA;refine⟨rv,en,em,ds,1,by omega,?_,h.laid _,bn.dF (Y HD) ((I.refl (λ_=>False) C).alloc _) (λ_ c=>c.elim),(I.refl _ _).alloc _,rfl,λk B=>.inl B,az _ rfl,λc=>?_⟩
  ·rcases(h.laid (.cells #[.string ⟨#[]⟩,.string ⟨#[]⟩,.bool false,.int .u64 0] 177)).row with⟨c1,c2,_⟩|c
   ·exact .inl ⟨c1,c2⟩
   ·exact .inr ⟨rfl,c⟩
  ·have:=(h.lN.each _ c).2;omega
 case round=>
  obtain⟨al,r',s,S',b,bi,dc,g,H,bd,ad,bc,u,bb⟩:=hrel;have eu:=g.br.cell;have eq:=g.ba.cell;have es:=g.bn.cell;have et:=g.bo.cell;have n1:=g.ra;have n2:¬q=e:=λdv=>g.ra dv.symm;have ao:=Z bd;have cd:=Z ad;have G:=Z u;have cn:=Z bc;have d:=Z bb;have cm:=Z bi;rcases dc with⟨rfl,rfl⟩|⟨rfl,A,o,rfl,eo,X⟩
  ·by_cases bt:s<L.length
   ·have bx:=bT.call s bt wr g.inv H;have cx:uc [] L s=uc L[s] L (s+1):=by unfold uc;rw[bm bt,aT,cL]
    have bq:=Z (ad.trans cx);have cs:=g.br;have cp:=g.ba;have HK:=Z (show∀k,k=e\/k=q->n0<=k by rintro k(rfl|rfl);exact g.own.1;exact g.own.2.1);have bp:=Z cs;have bo:=Z cp;clear cs cp;have cb:=Z g;clear g H bd ad u bc bb bi cx;cases hla:L[s]with
    |nil=>
     rw[hla]at bx bq;have an:=Z hla;clear hla;go_wp2_with(first
      |(go_at_fn bT.f;refine bx.mono ?_;rintro dv w1⟨v1,S1,rfl,bh,ax,z,S⟩;obtain⟨A,o,rfl,bs,bk⟩:=bh;have hA1:=(Y cb).opened bt z (by rw[Y an];exact⟨A,o,rfl,bs,bk⟩) S;have v:dY w1 e .nilFunc 187:=(z.block e (ak (Y bp)) ((Y p) _ ((Y HK) _ (.inl rfl)))).trans (Y bp);have r:dY w1 q (.int .i64 s) 3:=(z.block q (ak (Y bo)) ((Y p) _ ((Y HK) _ (.inr rfl)))).trans (Y bo);have dk:=nn (P:=prog) v (.func (.func A) #[] o) rfl;have cB:=r.cell;have cE:=r.free;have cT:=ak v;have cM:=ak r;have V:I (λk=>k=e\/k=q) w1 ((w1.setCell ⟨e,0,none⟩ (.func (.func A) #[] o)).setCell ⟨q,0,none⟩ (.int .i64 ((s:Int)+1))):=((I.refl (λk=>k=e\/k=q) w1).setCell e 0 _ (.inl (.inl rfl))).setCell q 0 _ (.inl (.inr rfl));have ba:=bn.dF ax V (λk B=>(Y p) k ((Y HK) k B));have bl:Bo bn n0 A o [] S1 ((w1.setCell ⟨e,0,none⟩ (.func (.func A) #[] o)).setCell ⟨q,0,none⟩ (.int .i64 ((s:Int)+1))):=(by rcases hA1.row with⟨c,_⟩|⟨f2,dx,ck,_,y⟩;cases c;cases ck;rw[Y an]at y;exact y);have w:=bl.2 _ (ia.refl _ _ _ _) ba;have dT:=hA1.br.cell;have ee:=hA1.br.free;have ej:=ak hA1.br;have n:=Z hA1;have Q:=Z z;have ac:=Z S;have R:=Z V;clear ax z S bk hA1 v r V ba bl)
      |(go_at_fn A;refine w.mono ?_;rintro dv W⟨rfl,t,h⟩;have hA2:=(Y n).ended (h.alloc (.cells #[.string ⟨#[]⟩,.string ⟨#[]⟩,.bool false,.int .u64 0] 177));have bf:dY W e (.func (.func A) #[] o) 187:=(h.block e (ak (Y n).br) (λc=>c.elim (λc=>((Y n).nS e c).1 rfl) (λc=>(Y p) _ (Y n).own.1 c))).trans (Y n).br;have dn:=nn (P:=prog) (bf.alloc (.cells #[.string ⟨#[]⟩,.string ⟨#[]⟩,.bool false,.int .u64 0] 177)) .nilFunc rfl;have N:=Z hA2;have O:=Z t;have F:=Z h;clear hA2 t h bf;unfold tQ))
     go_roundg(2*(L.length-s));case measure=>have:=Y cm;omega
     case rel=>
      have U:C.heap.size<wr.heap.size:=ak (Y G);have bv:¬bn.F C.heap.size:=(Y p) _ (Y D).size;have K:C.heap.size≠e/\C.heap.size≠q:=⟨λc=>(Y d) (.inl c),λc=>(Y d) (.inr (.inl c))⟩;have el:=(Y R).size;have ek:=(Y Q).size;have hT:I (λk=>jL bT e q xn xo ds k\/bn.F k) C ((W.alloc (.cells #[.string ⟨#[]⟩,.string ⟨#[]⟩,.bool false,.int .u64 0] 177)).setCell ⟨e,0,none⟩ .nilFunc):=by
       refine(((((Y ao).trans (Y Q) (λk B=>.inl (.inr B))).trans (Y R) ?_).trans (Y F) ?_).alloc _).setCell e 0 _ (.inl (.inl (.inl rfl)))
       ·rintro k(c|c)
        ·exact .inl (.inl (.inl c))
        ·exact .inl (.inl (.inr (.inl c)))
       ·rintro k(c|c)
        ·have:=(Y ac) k c;exact .inr (by omega)
        ·exact .inl (.inr c)
      have ce:=bn.dF (Y O) (((I.refl (λk=>k=e) W).alloc (.cells #[.string ⟨#[]⟩,.string ⟨#[]⟩,.bool false,.int .u64 0] 177)).setCell e 0 .nilFunc (.inl rfl)) (λk B=>by rw[B];exact(Y p) _ (Y n).own.1);have f:fX ((W.alloc (.cells #[.string ⟨#[]⟩,.string ⟨#[]⟩,.bool false,.int .u64 0] 177)).setCell ⟨e,0,none⟩ .nilFunc) C.heap.size zE:=by
       refine(eP _ K.1).trans (fX.alloc (b:=C.heap.size) (x:=zE) ?_ _);refine((((Y G).ay (Y Q) bv).ay (Y R) (λc=>c.elim K.1 K.2)).ay (Y F) ?_);rintro(c|c)
       ·have:=(Y ac) _ c;omega
       ·exact bv c
      refine⟨.nilFunc,[],s+1,λ_=>False,0,by omega,.inl ⟨rfl,rfl⟩,Y N,ce,hT,(Y bq),λ_ c=>c.elim,f,?_⟩;rintro(c|c|c|c|c|c)
      ·exact K.1 c
      ·exact K.2 c
      ·exact(Y d) (.inr (.inr (.inl c)))
      ·exact(Y d) (.inr (.inr (.inr (.inl c))))
      ·exact c
      ·exact(Y d) (.inr (.inr (.inr (.inr (.inr c)))))
    |cons x r2=>
     rw[hla]at bx bq;have an:=Z hla;clear hla;obtain⟨l,m,j,a⟩:=x;go_wp2_with(first
      |(go_at_fn bT.f;refine bx.mono ?_;rintro dv w1⟨v1,S1,rfl,bh,ax,z,S⟩;obtain⟨A,o,rfl,bs,bk⟩:=bh;have hA1:=(Y cb).opened bt z (by rw[Y an];exact⟨A,o,rfl,bs,bk⟩) S;have v:dY w1 e .nilFunc 187:=(z.block e (ak (Y bp)) ((Y p) _ ((Y HK) _ (.inl rfl)))).trans (Y bp);have r:dY w1 q (.int .i64 s) 3:=(z.block q (ak (Y bo)) ((Y p) _ ((Y HK) _ (.inr rfl)))).trans (Y bo);have dk:=nn (P:=prog) v (.func (.func A) #[] o) rfl;have cB:=r.cell;have cE:=r.free;have cT:=ak v;have cM:=ak r;have V:I (λk=>k=e\/k=q) w1 ((w1.setCell ⟨e,0,none⟩ (.func (.func A) #[] o)).setCell ⟨q,0,none⟩ (.int .i64 ((s:Int)+1))):=((I.refl (λk=>k=e\/k=q) w1).setCell e 0 _ (.inl (.inl rfl))).setCell q 0 _ (.inl (.inr rfl));have ba:=bn.dF ax V (λk B=>(Y p) k ((Y HK) k B));have bl:Bo bn n0 A o (⟨l,m,j,a⟩::r2) S1 ((w1.setCell ⟨e,0,none⟩ (.func (.func A) #[] o)).setCell ⟨q,0,none⟩ (.int .i64 ((s:Int)+1))):=(by rcases hA1.row with⟨c,_⟩|⟨f2,dx,ck,_,y⟩;cases c;cases ck;rw[Y an]at y;exact y);have w:=bl.2 _ (ia.refl _ _ _ _) ba;unfold E.value at w;simp only at w;have bg:Enters prog A:=bs;have dT:=hA1.br.cell;have ee:=hA1.br.free;have ej:=ak hA1.br;have n:=Z hA1;have Q:=Z z;have ac:=Z S;have R:=Z V;clear ax z S bk hA1 v r V ba bl)
      |(go_at_fn A;refine w.mono ?_;rintro dv W⟨rfl,t,h,S2,T,y⟩;have hA2:=(Y n).Kv h T ⟨A,o,rfl,bg,y⟩;have f:fX W C.heap.size zE:=((((Y G).ay (Y Q) ((Y p) _ (Y D).size)).ay (Y R) (λc=>c.elim (λc=>(Y d) (.inl c)) (λc=>(Y d) (.inr (.inl c))))).ay h (λc=>c.elim (λc=>by have:=(Y ac) _ c;have:=ak (Y G);omega) ((Y p) _ (Y D).size)));obtain⟨ea,eb,ec,ed⟩:=f.cells;have ef:=f.free (i:=0);have bh:=f.free (i:=1);have eg:=f.free (i:=2);have ei:=f.free (i:=3);have db:=ak f;have cc:=Z f;have N:=Z hA2;have O:=Z t;have F:=Z h;have br:=Z T;clear hA2 t h T y f))
     refine bO (ez rfl _ _ C.heap.size ⟨l,m,j,a⟩ _ _ rfl (((Y cc).put ⟨l,m,j,a⟩).alloc _)) rfl ?_;have U:C.heap.size<wr.heap.size:=ak (Y G);have el:=(Y R).size;have ek:=(Y Q).size;have hT:I (λk=>jL bT e q xn xo ds k\/bn.F k) C W:=by
      refine(((Y ao).trans (Y Q) (λk B=>.inl (.inr B))).trans (Y R) ?_).trans (Y F) ?_
      ·rintro k(c|c)
       ·exact .inl (.inl (.inl c))
       ·exact .inl (.inl (.inr (.inl c)))
      ·rintro k(c|c)
       ·have:=(Y ac) k c;exact .inr (by omega)
       ·exact .inl (.inr c)
     have ca:∀k,S2 k->C.heap.size<k:=λk B=>by
      rcases(Y br) k B with c|c
      ·have:=(Y ac) k c;omega
      ·omega
     have ch:¬jL bT e q xn xo S2 C.heap.size:=by
      rintro(c|c|c|c|c|c)
      ·exact(Y d) (.inl c)
      ·exact(Y d) (.inr (.inl c))
      ·exact(Y d) (.inr (.inr (.inl c)))
      ·exact(Y d) (.inr (.inr (.inr (.inl c))))
      ·have:=ca _ c;omega
      ·exact(Y d) (.inr (.inr (.inr (.inr (.inr c)))))
     obtain⟨q1,q2,q3⟩:=Bg (Y D) (Y N) (Y O) hT ch ⟨l,m,j,a⟩ (.cells #[.string l,.string m,.bool j,.int .u64 a] 177);exact⟨q1,q2,.inr ⟨⟨l,m,j,a⟩,_,r2,s+1,S2,(Y bq),rfl,q3,λk B=>.inr (by have:=ca k B;omega)⟩⟩
   ·have z:s=L.length:=by have:=g.le;omega
    subst z;obtain⟨ac,an,ax,ba⟩:=u.cells;have Q:=u.free (i:=0);have R:=u.free (i:=1);have S:=u.free (i:=2);have V:=u.free (i:=3);have cb:=Z g;have v:=Z H;clear g H bd ad u bc bb bi;go_wp2;refine bO (ez rfl _ _ C.heap.size zE _ _ rfl ((Y G).put zE)) rfl ?_;have r:I (λk=>k=C.heap.size) wr (qK wr C.heap.size zE):=gq _ _ _;refine⟨bn.dF (Y v) r (λk B hf=>by have:=(Y D).aH k hf;have:=(Y D).size;omega),(Y ao).trans r (λk B=>.inr (by omega)),.inl ⟨?_,rfl⟩⟩;rw[Y cd];simp[uc]
  ·have U:C.heap.size<wr.heap.size:=ak u;have bg:Enters prog A:=eo;have z:=Z U;cases r' with
   |nil=>
    have w:=X.2 wr (ia.refl _ _ _ _) H;have n:=Z g;clear g H bd ad u bc bb bi X U;go_wp2_with(go_at_fn A;refine w.mono ?_;rintro dv W⟨rfl,t,h⟩;have hA2:=(Y n).ended (h.alloc (.cells #[.string ⟨#[]⟩,.string ⟨#[]⟩,.bool false,.int .u64 0] 177));have bf:dY W e (.func (.func A) #[] o) 187:=(h.block e (ak (Y n).br) (λc=>c.elim (λc=>((Y n).nS e c).1 rfl) (λc=>(Y p) _ (Y n).own.1 c))).trans (Y n).br;have dn:=nn (P:=prog) (bf.alloc (.cells #[.string ⟨#[]⟩,.string ⟨#[]⟩,.bool false,.int .u64 0] 177)) .nilFunc rfl;have N:=Z hA2;have O:=Z t;have F:=Z h;clear hA2 t h bf;unfold tQ)
    go_roundg(2*(L.length-s)+1);case measure=>have:=Y cm;omega
    case rel=>
     have bv:¬bn.F C.heap.size:=(Y p) _ (Y D).size;have K:C.heap.size≠e:=λc=>(Y d) (.inl c);have r:=Y cn;have U:=Y z;have hT:I (λk=>jL bT e q xn xo ds k\/bn.F k) C ((W.alloc (.cells #[.string ⟨#[]⟩,.string ⟨#[]⟩,.bool false,.int .u64 0] 177)).setCell ⟨e,0,none⟩ .nilFunc):=by
      refine(((Y ao).trans (Y F) ?_).alloc _).setCell e 0 _ (.inl (.inl (.inl rfl)));rintro k(c|c)
      ·rcases r k c with v|v
       ·exact .inl (.inl (.inr (.inr (.inr (.inr (.inl v))))))
       ·exact .inr (by omega)
      ·exact .inl (.inr c)
     have ce:=bn.dF (Y O) (((I.refl (λk=>k=e) W).alloc (.cells #[.string ⟨#[]⟩,.string ⟨#[]⟩,.bool false,.int .u64 0] 177)).setCell e 0 .nilFunc (.inl rfl)) (λk B=>by rw[B];exact(Y p) _ (Y n).own.1);have f:fX ((W.alloc (.cells #[.string ⟨#[]⟩,.string ⟨#[]⟩,.bool false,.int .u64 0] 177)).setCell ⟨e,0,none⟩ .nilFunc) C.heap.size zE:=by
      refine(eP _ K).trans (fX.alloc (b:=C.heap.size) (x:=zE) ?_ _);refine(Y G).ay (Y F) ?_;rintro(c|c)
      ·exact(Y d) (.inr (.inr (.inr (.inr (.inl c)))))
      ·exact bv c
     refine⟨.nilFunc,[],s,λ_=>False,0,by omega,.inl ⟨rfl,rfl⟩,Y N,ce,hT,(Y cd),λ_ c=>c.elim,f,?_⟩;rintro(c|c|c|c|c|c)
     ·exact K c
     ·exact(Y d) (.inr (.inl c))
     ·exact(Y d) (.inr (.inr (.inl c)))
     ·exact(Y d) (.inr (.inr (.inr (.inl c))))
     ·exact c
     ·exact(Y d) (.inr (.inr (.inr (.inr (.inr c)))))
   |cons x r2=>
    have w:=X.2 wr (ia.refl _ _ _ _) H;have n:=Z g;clear g H bd ad u bc bb bi X U;obtain⟨l,m,j,a⟩:=x;unfold E.value at w;simp only at w;go_wp2_with(go_at_fn A;refine w.mono ?_;rintro dv W⟨rfl,t,h,S2,T,y⟩;have hA2:=(Y n).Kv h T ⟨A,o,rfl,bg,y⟩;have f:fX W C.heap.size zE:=((Y G).ay h (λc=>c.elim (λc=>(Y d) (.inr (.inr (.inr (.inr (.inl c)))))) ((Y p) _ (Y D).size)));obtain⟨ea,eb,ec,ed⟩:=f.cells;have ef:=f.free (i:=0);have bh:=f.free (i:=1);have eg:=f.free (i:=2);have ei:=f.free (i:=3);have db:=ak f;have cc:=Z f;have N:=Z hA2;have O:=Z t;have F:=Z h;have br:=Z T;clear hA2 t h T y f)
    refine bO (ez rfl _ _ C.heap.size ⟨l,m,j,a⟩ _ _ rfl (((Y cc).put ⟨l,m,j,a⟩).alloc _)) rfl ?_;have U:=Y z;have r:=Y cn;have hT:I (λk=>jL bT e q xn xo ds k\/bn.F k) C W:=by
     refine(Y ao).trans (Y F) ?_;rintro k(c|c)
     ·rcases r k c with v|v
      ·exact .inl (.inl (.inr (.inr (.inr (.inr (.inl v))))))
      ·exact .inr (by omega)
     ·exact .inl (.inr c)
    have ch:¬jL bT e q xn xo S2 C.heap.size:=by
     rintro(c|c|c|c|c|c)
     ·exact(Y d) (.inl c)
     ·exact(Y d) (.inr (.inl c))
     ·exact(Y d) (.inr (.inr (.inl c)))
     ·exact(Y d) (.inr (.inr (.inr (.inl c))))
     ·rcases(Y br) _ c with v|v
      ·exact(Y d) (.inr (.inr (.inr (.inr (.inl v)))))
      ·omega
     ·exact(Y d) (.inr (.inr (.inr (.inr (.inr c)))))
    obtain⟨q1,q2,q3⟩:=Bg (Y D) (Y N) (Y O) hT ch ⟨l,m,j,a⟩ (.cells #[.string l,.string m,.bool j,.int .u64 a] 177);refine⟨q1,q2,.inr ⟨⟨l,m,j,a⟩,_,r2,s,S2,(Y cd),rfl,q3,λk B=>?_⟩⟩;rcases(Y br) k B with v|v
    ·rcases r k v with v|v
     ·exact .inl v
     ·exact .inr (by omega)
    ·exact .inr (by omega)
def GK(V:gz)(n:Nat)(i:List (List E))(O:vG V n i)(e b c d:Nat)(h:i.length<=1000000000000):∀(x:List E)(j:M)(v:List E)(u:Nat)(S:Nat->Prop)(z:J),uc v i u=x->fT O z e b c d j v u S->Bo V n 293 #[.pointer (some ⟨e,0,none⟩),.pointer (some ⟨b,0,none⟩),.pointer (some ⟨c,0,none⟩),.pointer (some ⟨d,0,none⟩)] x (jL O e b c d S) z:=by
 intro x;induction x with
 |nil=>
  intro j v u S z m g;refine⟨g.lN,λt s r=>(xD V n i O e b c d j v u S t (g.same s) r h).mono ?_⟩;rintro H l⟨p,q,⟨_,a⟩|⟨L,k,y,w,o,a,_⟩⟩
  ·exact⟨a,p,q⟩
  ·rw[m]at a;cases a
 |cons N x G=>
  intro j v u S z m g;refine⟨g.lN,λt s r=>(xD V n i O e b c d j v u S t (g.same s) r h).mono ?_⟩;rintro H l⟨p,q,⟨a,_⟩|⟨L,k,y,w,o,a,B,C,D⟩⟩
  ·rw[m]at a;cases a
  ·rw[m]at a;obtain⟨rfl,F⟩:=tW a;refine⟨B,p,q,jL O e b c d o,?_,G k y w o l F.symm C⟩;rintro K(f|f|f|f|f|f)
   ·exact .inl (.inl f)
   ·exact .inl (.inr (.inl f))
   ·exact .inl (.inr (.inr (.inl f)))
   ·exact .inl (.inr (.inr (.inr (.inl f))))
   ·rcases D K f with A|A
    ·exact .inl (.inr (.inr (.inr (.inr (.inl A)))))
    ·exact .inr A
   ·exact .inl (.inr (.inr (.inr (.inr (.inr f)))))
def Bh(V:gz)(d:Nat)(a:List (List E))(O:vG V d a)(w:J)(b:O.inv w)(n:d<=w.heap.size)(hF:∀k,V.F k->k<d)(f:a.length<=1000000000000):Calls prog 288 #[.int .i64 a.length,.func (.func O.f) #[] O.cb] w λq j=>∃i g,q=.returned i/\gy V d i a.flatten g j/\Below w.heap.size w j/\(∀k,g k->O.S k\/w.heap.size<=k):=by
 have m:=Z b;have l:=Z hF;clear b hF;go_enter func288,ntmps288
 go_wp2;go_ret;have b:=Y m;have h:Below w.heap.size w ((((w.alloc (.cells #[.int .i64 a.length] 3)).alloc (.cells #[.func (.func O.f) #[] O.cb] 393)).alloc (.cells #[.int .i64 0] 3)).alloc (.cells #[.nilFunc] 187)):=((((Below.refl _ w).alloc (ai _) _).alloc (by simp) _).alloc (by simp;omega) _).alloc (by simp;omega) _;have o:I (λ_=>False) w _:=I.aR h;refine⟨_,jL O (w.heap.size+1+1+1) (w.heap.size+1+1) w.heap.size (w.heap.size+1) (λ_=>False),rfl,⟨293,_,rfl,enters_of func293 (by kernel_rfl) rfl,?_⟩,h,?_⟩
 ·refine GK V d a O _ _ _ _ f a.flatten .nilFunc [] 0 _ _ rfl ⟨az _ (by simp),?_,?_,?_,.inl ⟨rfl,rfl,λ_ c=>c⟩,O.dF w _ b (o.same n (λk e=>⟨(O.lt w b k e).2,λc=>c⟩) (λ_ c=>c.elim)),aU _,by simp;omega,Y l,⟨by omega,by omega,by omega,by omega⟩,by omega,by omega,by omega,by omega,by omega,λ_ c=>c.elim,λk e=>?_⟩
  ·exact dY.alloc (az _ (by simp)) _
  ·exact dY.alloc (dY.alloc (dY.alloc (az _ rfl) _) _) _
  ·exact dY.alloc (dY.alloc (az _ (by simp)) _) _
  ·have:=(O.lt w b k e).2;exact⟨by omega,by omega,by omega,by omega⟩
 ·rintro k(c|c|c|c|c|c)
  ·exact .inr (by omega)
  ·exact .inr (by omega)
  ·exact .inr (by omega)
  ·exact .inr (by omega)
  ·exact c.elim
  ·exact .inl c
def Kc(x y:E)(w:J):Calls prog 192 #[x.value,y.value] w λe d=>e=.returned (.bool (ahead x y))/\d=(w.alloc (.cells #[.string x.key,.string x.val,.bool x.del,.int .u64 x.bV] 177)).alloc (.cells #[.string y.key,.string y.val,.bool y.del,.int .u64 y.bV] 177):=by
 have a:ahead x y=(Op.bytesLess x.key.toList y.key.toList||((x.key.toList==y.key.toList)&&decide (y.bV<x.bV))):=by
  unfold ahead ep;congr 2;rw[rW];simp only[ri,lQ];exact⟨λe=>by rw[e],Cy⟩
 rw[a];clear a;obtain⟨b,h,g,f⟩:=x;obtain⟨c,l,k,j⟩:=y;unfold E.value;simp only;cases h1:Op.bytesLess b.toList c.toList with
 |true=>
  go_enter func192,ntmps192
  go_wp2;go_ret;exact⟨rfl,rfl⟩
 |false=>
  cases h2:(b.toList==c.toList)with
  |true=>
   go_enter func192,ntmps192
   go_wp2;go_ret;exact⟨by simp,rfl⟩
  |false=>
   go_enter func192,ntmps192
   go_wp2;go_ret;exact⟨by simp,rfl⟩
end Go.Proofs.YtophdnlmpfmeiaaGreatDoor
