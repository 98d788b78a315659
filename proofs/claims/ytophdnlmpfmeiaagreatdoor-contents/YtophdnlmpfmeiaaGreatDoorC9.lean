import Derived.Test.YtophdnlmpfmeiaaGreatDoorC1
namespace Go.Proofs.YtophdnlmpfmeiaaGreatDoor
open ChangeShapes WideShapes RowKit Proofs.Tryz
set_option maxHeartbeats 16000000
set_option linter.all false
set_option maxRecDepth 100000
def kO.set{w c:J}{b:Nat}{v u:M}{l:List KV}{a:Bool}(o:w.heap[b]?=some (.cells #[v,.slice none 0 0,.bool a] 46 (0,0)))(h:Below w.heap.size w c)(r:iz c u l)(s:∀p,u.ownBlock=some p->p<c.heap.size)(d:u.ownBlock≠some b):kO (c.setCell ⟨b,0,none⟩ u) b u.ownBlock l a/\w.grownBy (c.setCell ⟨b,0,none⟩ u) (some b):=by
 have e:=co c b 0 u;have g:c.heap[b]?=some (.cells #[v,.slice none 0 0,.bool a] 46 (0,0)):=by rw[h.block b (ak o)];exact o
 exact⟨⟨⟨u,by rw[aL g];rfl,Row.grown r e (.inl d),rfl⟩,d,λp a=>ah (s p a) e.size⟩,xw (EL h _) e⟩
def oe(b:Nat)(q:Option Nat)(Q:List KV)(a:Bool)(F:M)(c:List nk)(w:J)(G:kO w b q Q a)(O:tD w F c)(k:∀h,F.ownBlock=some h->h<w.heap.size)(hr:Q.length+c.length<=1000000000000):Calls prog 14 #[.pointer (some ⟨b,0,none⟩),F] w λr T=>
 r=.returned (.int .i64 (if a then 6 else eB c))/\(∃d,kO T b d (if a=false/\eB c=0 then Kk Q c else Q) a/\(d=q\/∀h,d=some h->w.heap.size<=h))/\w.grownBy T (some b):=by
 have L:=Z G
 obtain⟨⟨v,j,P,t⟩,n,m⟩:=G
 have A:w.cell? ⟨b,0,none⟩=some v:=by rw[aj j];rfl
 have al:w.cell? ⟨b,2,none⟩=some (.bool a):=by rw[aj j];rfl
 have B:w.frozen? ⟨b,0,none⟩=false:=cG j
 have o:b<w.heap.size:=ak j
 have W:=Z j
 have K:=Z P
 have X:=Z (show∀h,v.ownBlock=some h->h<w.heap.size fromλh a=>m h (t▸a))
 have u:=Z O
 have x:=Z k
 have y:=Z (show v.ownBlock≠some b from t▸n)
 have z:=Z t
 clear j P t m O k n
 cases a with
 |true=>
  go_enter func14,ntmps14
  go_wp2;go_ret;exact⟨rfl,⟨q,Y L,.inl rfl⟩,pa _ _⟩
 |false=>
  by_cases s:eB c=0
  ·have C:(eB c==0)=true:=by rw[s];rfl
   have ao:eB c=0:=s;clear s;rcases(Y K).shape with rfl|⟨ba,ax,ac,rfl⟩;all_goals
    go_enter func14,ntmps14
    go_wp2_with fail
    refine(Bf F c _ (Y u) (by omega)).mono ?_;rintro r U⟨rfl,rfl⟩;go_wp2_with fail
    refine(OU _ F Q c _ (Y K) (Y X) (Y u) (Y x) hr).mono ?_;rintro r V⟨E,rfl,f,l,g,d⟩;have an:V.frozen? ⟨b,0,none⟩=false:=(d.frozen (by exact o)).trans B;have ad:V.cell? ⟨b,0,none⟩=_:=(d.cell (by exact o)).trans A;have e:E.ownBlock≠some b:=λr=>by rcases g with G|G;exact Y y (G▸r);exact absurd (G b r) (by omega)
    have H:=Z (kO.set (Y W) d f l e);have D:=f.shape;have HOr:=Z (show E.ownBlock=q\/∀h,E.ownBlock=some h->U.heap.size<=h from g.imp (λr=>r.trans (Y z)) id);clear f l d e g;rcases D with rfl|⟨b1,R,N,rfl⟩;all_goals
     go_wp2;go_ret;exact⟨rfl,⟨_,(Y H).1,Y HOr⟩,(Y H).2⟩
  ·have C:(eB c==0)=false:=iC.2 s;go_enter func14,ntmps14
   go_wp2_with fail
   refine(Bf F c _ (Y u) (by omega)).mono ?_;rintro r U⟨rfl,rfl⟩;go_wp2;go_ret;exact⟨rfl,⟨q,Y L,.inl rfl⟩,pa _ _⟩
def Dp(j:Nat)(h:Option Nat)(q:List KV)(a:Bool)(w:J)(s:kO w j h q a):Calls prog 28 #[.pointer (some ⟨j,0,none⟩)] w λk n=>
 k=.returned (.pointer (some ⟨w.heap.size,0,none⟩))/\kO n w.heap.size h q false/\∃o,n=w.alloc o:=by
 obtain⟨⟨v,l,c,m⟩,e,b⟩:=s
 have p:w.cell? ⟨j,0,none⟩=some v:=by rw[aj l];rfl
 have fin:kO (w.alloc (.cells #[v,.slice none 0 0,.bool false] 46)) w.heap.size h q false:=⟨⟨v,ew _ _,Row.grown c (cD w _ none) (by rcases c.shape with rfl|⟨r,g,d,rfl⟩;exact .inr rfl;exact .inl (by simp[Value.ownBlock])),m⟩,λk=>by have:=b _ k;omega,λe k=>by have:=b e k;simp;omega⟩
 have o:=Z fin
 have f:=c.shape
 clear fin l c m e b
 rcases f with rfl|⟨r,g,d,rfl⟩
 all_goals
  go_enter func28,ntmps28
  go_wp2;go_ret;exact⟨rfl,Y o,_,rfl⟩
structure Ao where
 kd:Int
 A:Int
 B:Int
 S:aa
 T:aa
 L:M
 cs:List nk
def Ao.cells(o:Ao):List M:=[.int .i64 o.kd,.int .i64 o.A,.int .i64 o.B,.string o.S,.string o.T,o.L]
def nz(a:List Ao):List M:=a.flatMap Ao.cells
def mq(a:List Ao)(i:Nat)(h:i<a.length)(j:Nat)(d:j<6):(nz a)[i*6+j]?=a[i].cells[j]?:=by
 induction a generalizing i with
 |nil=>simp at h
 |cons o a c=>
  have e:nz (o::a)=o.cells++nz a:=rfl;have b:o.cells.length=6:=rfl;rcases i with _|i
  ·rw[e,fH (by rw[b];omega)];simp
  ·rw[e,dD (by rw[b];omega),b];have:(i+1)*6+j-6=i*6+j:=by omega
   rw[this,c i (by simpa using h)];rfl
def Ap(a:List nk):Nat:=(a.map (λc=>1+c.key.size+c.val.size)).sum
def Pf(o:Ao):Nat:=o.S.size+o.T.size+Ap o.cs
def xW(a:List Ao):Nat:=(a.map Pf).sum
def MT(w:J)(v:M)(a:List nk):Prop:=(tD w v a/\∀k,v.ownBlock=some k->k<w.heap.size)\/(a=[]/\∃(b:Addr)(c:Nat),v=.slice (some b) 0 c)
def we{w:J}{v:M}{c:List nk}(h:MT w v c):∃x f,v=.slice x c.length f:=by
 rcases h with⟨⟨j,⟨a,e⟩|⟨g,d,b,a,_⟩⟩,_⟩|⟨rfl,k,f,rfl⟩
 ·exact⟨none,0,by rw[a,e]⟩
 ·exact⟨_,_,a⟩
 ·exact⟨_,_,rfl⟩
def MT.ay{w w':J}{v:M}{d:List nk}(h:MT w v d)(g:I (λ_=>False) w w'):MT w' v d:=by
 rcases h with⟨o,e⟩|h
 ·exact .inl ⟨g.row o (λk a=>⟨id,e k a⟩),λk a=>ah (e k a) g.size⟩
 ·exact .inr h
structure zR(w:J)(v:M)(os:List Ao):Prop where
 row:Row w 6 v os.length (nz os)
 MS:∀o∈os,MT w o.L o.cs
 lt:∀k,v.ownBlock=some k->k<w.heap.size
 str:∀o∈os,o.S.size<=140737488351232/\o.T.size<=140737488351232
 Qu:∀o∈os,∀c∈o.cs,c.key.size<=140737488351232/\c.val.size<=140737488351232
 len:os.length<=10000000000000
 lens:∀o∈os,o.cs.length<=10000000000000
def Kn(a:List nk)(k:Nat)(h:k<a.length):Ap (a.take (k+1))=Ap (a.take k)+(1+a[k].key.size+a[k].val.size):=by
 unfold Ap;rw[aq h,aN,eG];simp
def CO(a:List Ao)(i:Nat)(h:i<a.length):xW (a.take (i+1))=xW (a.take i)+Pf a[i]:=by
 unfold xW;rw[aq h,aN,eG];simp
def Ko(a:List nk)(k:Nat):Ap (a.take k)<=Ap a:=by
 unfold Ap;conv=>rhs;rw[<-bF k a,aN,eG]
 omega
def Fa(a:List Ao)(k:Nat):xW (a.take k)<=xW a:=by
 unfold xW;conv=>rhs;rw[<-bF k a,aN,eG]
 omega
def Fp(bb g bk:Nat)(a:List Ao)(w:J)(bl:zR w (.slice (some ⟨bb,g,none⟩) a.length bk) a):Calls prog 5 #[.slice (some ⟨bb,g,none⟩) a.length bk] w λbp w'=>bp=.returned (.bool (decide (a.length+xW a<=1048576)))/\∃V,w'=w.drewN V:=by
 by_cases bh:1048576<a.length
 ·have e1:(1048576:Int)<(a.length:Int):=by omega
  have B:decide (a.length+xW a<=1048576)=false:=by simp;omega
  rw[B];clear bl;go_enter func5,ntmps5
  go_wp2;go_ret;exact⟨rfl,0,rfl⟩
 ·have e1:¬((1048576:Int)<(a.length:Int)):=by omega
  have h:∀W:J,W.heap=w.heap->∀i(L:i<a.length),W.cell? ⟨bb,g+i*6+3,none⟩=some (.string a[i].S)/\W.cell? ⟨bb,g+i*6+4,none⟩=some (.string a[i].T)/\W.cell? ⟨bb,g+i*6+5,none⟩=some a[i].L:=λW f i L=>by
   obtain⟨o,⟨C,n⟩|⟨m,d,c,C,e,k⟩⟩:=bl.row
   ·cases C
   ·have b:∀j u,(nz a)[j]?=some u->W.cell? ⟨bb,g+j,none⟩=some u:=λj u l=>by
     cases C;rw[bI (w:=w) (by rw[f])];exact k j u l
    refine⟨?_,?_,?_⟩
    ·rw[aP];exact b _ _ ((mq a i L 3 (by omega)).trans rfl)
    ·rw[aP];exact b _ _ ((mq a i L 4 (by omega)).trans rfl)
    ·rw[aP];exact b _ _ ((mq a i L 5 (by omega)).trans rfl)
  have x:=Z h;have T:=Z bl;clear bl h;go_enter func5,ntmps5
  go_wp2_with fail
  go_loopw [3,4] (λnv b wr=>∃i:Nat,i<=a.length/\b=.int .i64 i/\nv=.int .i64 (a.length+xW (a.take i):Nat)/\a.length+xW (a.take i)<=1048576/\∃V,wr=w.drewN V) (λ_ b _=>a.length-(intOf b).toNat)
  case atStart=>exact⟨0,aU _,rfl,by simp[xW],by simp[xW];omega,0,rfl⟩
  case round=>
   obtain⟨i,L,rfl,rfl,l,V,rfl⟩:=hrel;by_cases p:i<a.length
   ·have f:=au p;obtain⟨c3,c4,c5⟩:=(Y x) w rfl i p;have R:=(Y T).str _ f;have y:=(Y T).Qu _ f;have j:=(Y T).MS _ f;have an:=(Y T).lens _ f;have Q:=CO a i p;have O:=Fa a (i+1);have q:Pf a[i]=a[i].S.size+a[i].T.size+Ap a[i].cs:=rfl;have ao:∃x lc,a[i].L=.slice x a[i].cs.length lc:=we j;obtain⟨lx,lc,hL⟩:=ao;rw[hL]at c5 j;generalize a[i]=bq at*;obtain⟨bo,oA,oB,oS,oT,oL,b⟩:=bq;simp only at c3 c4 c5 R y j an q hL;obtain⟨m,ax⟩:∃m,oS.size=m:=⟨_,rfl⟩;obtain⟨u,ba⟩:∃u,oT.size=u:=⟨_,rfl⟩;obtain⟨S,hM⟩:∃S,a.length+xW (a.take i)=S:=⟨_,rfl⟩;rw[hM]at l|-;rw[ax,ba]at R q;have a1:IntKind.i64.wrap ((S:Int)+(m:Int))=(S:Int)+m:=by rw[bu];omega
    have a2:IntKind.i64.wrap ((S:Int)+(m:Int)+(u:Int))=(S:Int)+m+u:=by rw[bu];omega
    have e2:(i:Int)<(a.length:Int):=by omega
    have e3:(0:Int)<=(i:Int):=by omega
    have E:=Z Q;have D:=Z O;have F:=Z q;have HM:=Z hM;have ac:=Z y;have W:=Z j;clear Q O q hM y j f;go_wp2_with fail
    go_quiet(fail)
    rename_i nq;go_wp2_with fail
    go_loopw [3,5] (λnv a wr=>∃k:Nat,k<=b.length/\a=.int .i64 k/\nv=.int .i64 (S+m+u+Ap (b.take k):Nat)/\(0<k->S+m+u+Ap (b.take k)<=1048576)/\∃V,wr=w.drewN V) (λ_ a _=>b.length-(intOf a).toNat)
    case atStart=>exact⟨0,aU _,rfl,by simp[Ap],λbk=>absurd bk (by omega),V+nq,qX w V nq⟩
    case round=>
     obtain⟨k,hk,rfl,rfl,e,C,rfl⟩:=hrel;by_cases c:k<b.length
     ·have hx:∃A d,lx=some ⟨A,d,none⟩/\w.cell? ⟨A,d+k*3,none⟩=some (.string b[k].key)/\w.cell? ⟨A,d+k*3+1,none⟩=some (.string b[k].val):=by
       rcases Y W with⟨⟨z1,⟨z2,z0⟩|⟨A,d,bc,z2,bi,H⟩⟩,_⟩|⟨z3,_⟩
       ·omega
       ·cases z2;obtain⟨w1,w2,_⟩:=iO b k c;exact⟨A,d,rfl,H _ _ w1,by rw[aP];exact H _ _ w2⟩
       ·rw[z3]at c;simp at c
      obtain⟨A,d,N,d0,d1⟩:=hx;subst N;have al:=(Y ac) _ (au c);have o:=Kn b k c;have K:=Ko b (k+1);obtain⟨r,s⟩:∃r,b[k].key.size=r:=⟨_,rfl⟩;obtain⟨z,t⟩:∃z,b[k].val.size=z:=⟨_,rfl⟩;rw[s,t]at al o;obtain⟨P,n⟩:∃P,S+m+u+Ap (b.take k)=P:=⟨_,rfl⟩;rw[n]at e|-;have bn:P<=281474977759232:=by
       rcases k with _|k
       ·simp[Ap]at n;omega
       ·have:=e (by omega);omega
      generalize b[k]=cc at*;obtain⟨bf,bg,bd⟩:=cc;simp only at d0 d1 s t;have b1:IntKind.i64.wrap ((P:Int)+1)=(P:Int)+1:=by rw[bu];omega
      have b2:IntKind.i64.wrap ((P:Int)+1+(r:Int))=(P:Int)+1+r:=by rw[bu];omega
      have b3:IntKind.i64.wrap ((P:Int)+1+(r:Int)+(z:Int))=(P:Int)+1+r+z:=by rw[bu];omega
      have f1:(k:Int)<(b.length:Int):=by omega
      have f0:(0:Int)<=(k:Int):=by omega
      have HP:=Z n;have X:=Z o;by_cases ad:1048576<P+1+r+z
      ·have B:decide (a.length+xW a<=1048576)=false:=by
        have U:=Y E;have G:=Y D;have h3:=Y F;have h4:=Y HM;simp;omega
       have f2:(1048576:Int)<(P:Int)+1+r+z:=by omega
       clear n o K e;go_wp2_with fail
       go_quiet(fail)
       go_wp2;go_ret;exact⟨(by first|rfl|(rw[B];rfl)),_,rfl⟩
      ·have f2:¬((1048576:Int)<(P:Int)+1+r+z):=by omega
       clear n o K e;go_wp2_with fail
       go_quiet(fail)
       rename_i H;go_wp2;go_roundw;case rel=>
        have U:=Y HP;have G:=Y X;refine⟨k+1,c,by go_num,?_,λ_=>by omega,_,rfl⟩;rw[G];congr 1;omega
       case measure=>simp[intOf];omega
     ·have d:k=b.length:=by omega
      subst d;rw[bD]at e|-;obtain⟨P,n⟩:∃P,S+m+u+Ap b=P:=⟨_,rfl⟩;rw[n]at e|-;have f1:¬((b.length:Int)<(b.length:Int)):=by omega
      have U:=Y E;have G:=Y D;have h3:=Y F;have h4:=Y HM;by_cases ad:1048576<P
      ·have B:decide (a.length+xW a<=1048576)=false:=by simp;omega
       have f2:(1048576:Int)<(P:Int):=by omega
       clear U G h3 h4 n e;go_wp2;go_ret;exact⟨(by first|rfl|(rw[B];rfl)),C,rfl⟩
      ·have f2:¬((1048576:Int)<(P:Int)):=by omega
       have r:a.length+xW (a.take (i+1))=P:=by omega
       have o:=Z r;clear U G h3 h4 n e r;go_wp2;go_roundw;case rel=>exact⟨i+1,p,by go_num,by rw[Y o],by rw[Y o];omega,C,rfl⟩
       case measure=>simp[intOf];omega
   ·have b:i=a.length:=by omega
    subst b;rw[bD]at l|-;have e2:¬((a.length:Int)<(a.length:Int)):=by omega
    have B:decide (a.length+xW a<=1048576)=true:=by simp;exact l
    go_wp2;go_ret;exact⟨rfl,V,rfl⟩
end Go.Proofs.YtophdnlmpfmeiaaGreatDoor
