import Derived.Test.YtophdnlmpfmeiaaGreatDoorC15
import Derived.Test.YtophdnlmpfmeiaaGreatDoorC21
namespace Go.Proofs.YtophdnlmpfmeiaaGreatDoor
open ChangeShapes WideShapes RowKit Proofs.Tryz
set_option maxHeartbeats 16000000
set_option linter.all false
set_option maxRecDepth 100000
def fK(L:Nat):Nat:=(L+99)/100
def gu(L i:Nat):Nat:=i*L/fK L
def vD{L i:Nat}(f:i<fK L):gu L i<gu L (i+1)/\gu L (i+1)<=gu L i+100:=by
 unfold gu;have b:fK L<=L:=by unfold fK at*;omega
 have d:L<=fK L*100:=by unfold fK;omega
 have a:0<fK L:=by omega
 have e:(i+1)*L=i*L+L:=by rw[Nat.add_mul,Nat.one_mul]
 rw[e];constructor
 ·have:(i*L+fK L)/fK L<=(i*L+L)/fK L:=Nat.div_le_div_right (by omega);rw[Nat.add_div_right _ a]at this;omega
 ·have:(i*L+L)/fK L<=(i*L+fK L*100)/fK L:=Nat.div_le_div_right (by omega);rw[Nat.add_mul_div_left _ _ a]at this;omega
def Mm(L:Nat):gu L 0=0:=by simp[gu]
def Hp{L:Nat}(h:0<L):gu L (fK L)=L:=by
 unfold gu;exact Nat.mul_div_cancel_left _ (by unfold fK;omega)
def Mo{L:Nat}:∀{i j:Nat},i<=j->j<=fK L->gu L i<=gu L j:=by
 intro i j a;induction j with
 |zero=>intro _;(obtain rfl:i=0:=by omega);exact ai _
 |succ j b=>
  intro d;rcases cJ i (j+1)with c|c
  ·have:=b (by omega) (by omega);have:=(vD (L:=L) (i:=j) (by omega)).1;omega
  ·obtain rfl:i=j+1:=by omega
   exact ai _
def Mq{L i:Nat}(h:i<=fK L):gu L i<=L:=by
 rcases de L with c|c
 ·subst c;unfold gu;simp
 ·have:=Mo (L:=L) h (ai _);rw[Hp c]at this;exact this
def ny(l:List E)(i:Nat):List E:=(l.drop (gu l.length i)).take (gu l.length (i+1)-gu l.length i)
def jf(l:List E):List (List E):=(List.range (fK l.length)).map (ny l)
def FQ(l:List E):∀n,n<=fK l.length->((List.range n).map (ny l)).flatten=l.take (gu l.length n):=by
 intro n;induction n with
 |zero=>intro _;simp[Mm]
 |succ n a=>
  intro b;rw[rU,aN,dl,a (by omega)];have c:=vD (L:=l.length) (i:=n) (by omega);simp only[aY,df,aT,dH,cN];unfold ny;rw[<-List.take_add];congr 1;omega
def FR(l:List E):(jf l).flatten=l:=by
 unfold jf;rw[FQ l _ (ai _)];rcases de l.length with c|c
 ·obtain rfl:=aG c;simp
 ·rw[Hp c,bD]
def sQ{l:List E}{i:Nat}(a:i<fK l.length):(ny l i).length=gu l.length (i+1)-gu l.length i/\0<(ny l i).length/\(ny l i).length<=100:=by
 have b:=vD a;have c:=Mq (L:=l.length) (i:=i+1) (by omega);have d:(ny l i).length=gu l.length (i+1)-gu l.length i:=by unfold ny;simp;omega
 omega
def AK(g b a L i:Nat):M:=.slice (some ⟨g,b+gu L i*4,none⟩) (gu L (i+1)-gu L i) (a-gu L i)
def Eg:(prog.info? 102).map (λi=>(i.zero,i.size,i.bytes))=some (some (.slice none 0 0),1,24):=by kernel_rfl
def Fo(L C b a:Nat)(Q:J)(R:L<=1000000000)(T:L<=a)(bc:a<=9223372036854775807):Calls prog 199 #[.slice (some ⟨C,b,none⟩) L a] Q λbl X=>∃W,bl=.returned W/\X.ownsRow Q.heap.size 102 1 W (fK L) ((List.range (fK L)).map (AK C b a L))/\I (λ_=>False) Q X:=by
 obtain⟨V,u,x,y,z⟩:=bK Eg;obtain⟨N,q⟩:∃N,fK L=N:=⟨_,rfl⟩;have bb:N<=10000001:=by unfold fK at q;omega
 have e1:Int.tdiv ((L:Int)+100-1) 100=(N:Int):=by
  have:((L:Int)+100-1)=((L+99:Nat):Int):=by omega
  rw[this,<-q];unfold fK;exact(sG _ _).symm
 rw[q];go_enter func199,ntmps199
 go_wp2_with(first
  |(at_make;go_loud(refine gO _ rfl _ _ 322 rfl Q.heap.size 102 V (.slice none 0 0) 1 underlying322 u x y _ _ _ N rfl rfl (by omega) (by rw[z];omega) (by unfold maxLen;omega) (ai _) ?_;intro w4 p m;have G:=Z p;have D:=Z m;clear p m)))
 go_loopw [4,14] (λo i wr=>∃n:Nat,n<=N/\i=.int .i64 n/\wr.ownsRow Q.heap.size 102 1 o n ((List.range n).map (AK C b a L))/\I (λ_=>False) Q wr) (λ_ i _=>N-(intOf i).toNat)
 case atStart=>exact⟨0,aU _,rfl,Y G,I.bz (S:=λ_=>False) (Y D) (by simp)⟩
 case round=>
  obtain⟨n,hn,rfl,d,f⟩:=hrel;obtain⟨bo,c,U⟩:=aC d;have bi:=f.size;have O:=d.lt;by_cases r:n<N
  ·have bh:=vD (L:=L) (i:=n) (by rw[q];exact r);have bd:=Mq (L:=L) (i:=n+1) (by rw[q];exact r);obtain⟨A,g⟩:∃p,n*L=p:=⟨_,rfl⟩;obtain⟨B,h⟩:∃p,(n+1)*L=p:=⟨_,rfl⟩;have bf:A<=10000001*1000000000:=by rw[<-g];exact Nat.mul_le_mul (by omega) R
   have bg:B<=10000001*1000000000:=by rw[<-h];exact Nat.mul_le_mul (by omega) R
   have a1:(n:Int)*(L:Int)=(A:Int):=by rw[<-g];exact(Int.natCast_mul _ _).symm
   have a2:((n:Int)+1)*(L:Int)=(B:Int):=by rw[<-h];exact(Int.natCast_mul _ _).symm
   have a3:Int.tdiv (A:Int) (N:Int)=(gu L n:Int):=by unfold gu;rw[q,g];exact(sG _ _).symm
   have a4:Int.tdiv (B:Int) (N:Int)=(gu L (n+1):Int):=by unfold gu;rw[q,h];exact(sG _ _).symm
   have HP:=Z (show AK C b a L n=.slice (some ⟨C,b+gu L n*4,none⟩) (gu L (n+1)-gu L n) (a-gu L n)from rfl);have E:=Z d;have H:=Z f;clear d f g h;generalize gu L n=e at*;generalize gu L (n+1)=o at*;have b1:((N:Int)==0)=false:=by simp;omega
   have b2:IntKind.i64.wrap (A:Int)=(A:Int):=by rw[bu];omega
   have b3:IntKind.i64.wrap (B:Int)=(B:Int):=by rw[bu];omega
   have b4:(e:Int)<=(o:Int):=by omega
   have b5:(o:Int)<=(a:Int):=by omega
   have b6:¬(a-e=0):=by omega
   have b7:(0:Int)<=(e:Int):=by omega
   have b8:IntKind.i64.wrap (e:Int)=(e:Int):=by rw[bu];omega
   have b9:IntKind.i64.wrap (o:Int)=(o:Int):=by rw[bu];omega
   have an:¬((N:Int)=0):=by omega
   have ao:¬(N=0):=by omega
   have ba:¬(a=e):=by omega
   have ax:IntKind.i64.wrap ((n:Int)+1)=(n:Int)+1:=by rw[bu];omega
   subst U;go_wp2_with fail
   rename_i QQ KK t;refine bM (λbk=>True) 18 (by kernel_rfl) ?_;refine cz 0 ?_;iterate 16 (refine cy (v:=?_) trivial rfl (by kernel_rfl) (λ_ _ _ bn=>bn) (Or.inl ⟨by rfl,?_⟩) ?_;rotate_left;(focus(intro bk hX;go_simp;try with_reducible rfl));simp only[Act.put,Nat.reduceAdd,ab,ae,af])
   refine dG ?_;refine aI (i:=16) rfl rfl (by kernel_rfl) ?_;intro ac j;go_simp;refine j _ _ (λ_=>trivial) ?_;refine aI (i:=17) rfl rfl (by kernel_rfl) ?_;intro ad k;simp only[av,am,ap];refine ix (.tmp 17) (.tmp 33) 322 rfl Q.heap.size 102 V (.slice none 0 0) 1 24 underlying322 u x y z rfl (by decide) (.slice bo n c) n ((List.range n).map (AK C b a L)) rfl (hZ (aM (Y E) (.cells #[.slice (some ⟨C,b+e*4,none⟩) (o-e) (a-e)] 102)) rfl) ⟨wr.heap.size,0,none⟩ 1 1 [.slice (some ⟨C,b+e*4,none⟩) (o-e) (a-e)] rfl rfl (nY _ _ _) (by simp[Value.oneCell']) (by omega) (by omega) (by simp;omega) ?_;intro v3 w3 s w;obtain⟨x3,c3,P⟩:=aC s;subst P;refine k _ _ (λ_=>trivial) ?_;simp only[Act.put,ab,ae,af];refine aI (i:=18) rfl rfl (by kernel_rfl) ?_;intro al l;go_simp;refine l _ _ (λc=>(c rfl).elim) ?_;refine cr (by kernel_rfl) ?_ _;show KK _ _;refine t _ _ ?_;have F:=Z s;have K:=Z w;clear t j k l s w;go_wp2;go_roundw;case rel=>
    refine⟨n+1,r,by go_num,?_,?_⟩
    ·rw[rU,aN,aY,df,Y HP];exact Y F
    ·have h1:=(Y H).alloc (.cells #[.slice (some ⟨C,b+e*4,none⟩) (o-e) (a-e)] 102);exact(h1.of_heap (c:=(wr.alloc (.cells #[.slice (some ⟨C,b+e*4,none⟩) (o-e) (a-e)] 102)).drew) rfl).trans (I.dU (Y K)) (λk d=>.inr (O k d).1)
   case measure=>simp[intOf];omega
  ·have e:n=N:=by omega
   subst e;have E:=Z d;have H:=Z f;clear d f;subst U;go_wp2;go_ret;exact⟨_,rfl,Y E,Y H⟩
def CB(w:J)(c:Nat)(t:ar):Prop:=∃b a bJ,js w t.tb (.pointer (some ⟨c,0,none⟩)) t.num (cC t.cs).length (dz t.ks).length (jv (dz t.ks)) b a bJ (.slice none 0 0) t.ks
def CB.GR{w:J}{c:Nat}{t:ar}(h:CB w c t):GP w t:=by
 obtain⟨b,a,bJ,d⟩:=h;exact⟨_,_,_,_,_,b,a,bJ,_,d⟩
def CB.below{w g:J}{d:Nat}{t:ar}(o:CB w d t)(e:Below w.heap.size w g):CB g d t:=by
 obtain⟨h,a,bJ,b⟩:=o;exact⟨h,a,bJ,b.dh (e.block _ b.lt.1) (e.block _ b.lt.2)⟩
def ar.qh(t:ar):List M:=[.int .u64 t.num,.int .u32 (cC t.cs).length,.int .u32 (dz t.ks).length,.int .u32 (jv (dz t.ks))]
def cf(a:List ar):List M:=a.flatMap ar.qh
def ze(a:List ar)(t:ar):cf (a++[t])=cf a++t.qh:=by simp[cf]
def Ef:(prog.info? 233).map (λi=>(i.zero,i.size,i.bytes))=some (some (.agg #[.int .u64 0,.int .u32 0,.int .u32 0,.int .u32 0]),4,24):=by kernel_rfl
def xE{w:J}{n:Nat}(x y z u:M)(t:TypeId)(b:n=w.heap.size):∀j q,[x,y,z,u][j]?=some q->(w.alloc (.cells #[x,y,z,u] t)).cell? ((⟨n,0,none⟩:Addr).add j)=some q:=by
 intro j q a;subst b;rw[ct];unfold World.cell?;rw[ew];simpa using a
def Gc(w:J)(W:Nat)(v:M)(b:List ar)(P:ii w v b)(F:∀ba∈b,CB w W ba)(hl:b.length<=100000000):Calls prog 159 #[v] w λao N=>∃L,ao=.returned L/\N.ownsRow w.heap.size 233 4 L b.length (cf b)/\Below w.heap.size w N:=by
 obtain⟨G,l,m,o,p⟩:=bK Ef;rcases P.shape with⟨rfl,rfl⟩|⟨bc,an,V,rfl,_⟩
 ·clear P F;go_enter func159,ntmps159
  go_wp2_with(first
   |(at_make;go_loud(refine gO _ rfl _ _ 152 rfl w.heap.size 233 G (.agg #[.int .u64 0,.int .u32 0,.int .u32 0,.int .u32 0]) 4 underlying152 l m o _ _ _ 0 rfl rfl (by omega) (by rw[p];omega) (by unfold maxLen;omega) (ai _) ?_;intro O d c;have j:=Z d;have h:=Z c;clear d c)))
  go_loopw [3,11] (λal i wr=>i=.int .i64 0/\wr.ownsRow w.heap.size 233 4 al 0 []/\wr=O) (λ_ _ _=>0)
  case atStart=>exact⟨rfl,Y j,rfl⟩
  case round=>
   obtain⟨rfl,t,a⟩:=hrel;subst wr;obtain⟨ax,y,rfl⟩:=aC t;have q:=Z t;clear t;go_wp2;go_ret;exact⟨_,rfl,Y q,(I.bz (S:=λ_=>False) (Y h) (by simp)).below (ai _) (λ_ y=>y.elim)⟩
 ·have Q:=Z P;have U:=Z F;clear P F;go_enter func159,ntmps159
  go_wp2_with(first
   |(at_make;go_loud(refine gO _ rfl _ _ 152 rfl w.heap.size 233 G (.agg #[.int .u64 0,.int .u32 0,.int .u32 0,.int .u32 0]) 4 underlying152 l m o _ _ _ b.length rfl rfl (by omega) (by rw[p];omega) (by unfold maxLen;omega) (ai _) ?_;intro O d c;have j:=Z d;have h:=Z c;clear d c)))
  go_loopw [3,11] (λal i wr=>∃n:Nat,n<=b.length/\i=.int .i64 n/\wr.ownsRow w.heap.size 233 4 al n (cf (b.take n))/\I (λ_=>False) w wr) (λ_ i _=>b.length-(intOf i).toNat)
  case atStart=>exact⟨0,aU _,rfl,Y j,I.bz (S:=λ_=>False) (Y h) (by simp)⟩
  case round=>
   obtain⟨n,hn,rfl,a,e⟩:=hrel;have r:=e.below (ai _) (λ_ y=>y.elim);have ad:=e.size;obtain⟨ax,y,t⟩:=aC a;by_cases g:n<b.length
   ·have X:=((Y Q).below r).cell g;obtain⟨bb,H,bJ,K⟩:=((Y U) _ (au g)).below r;have s:=Lr wr _ _ _ _ _ _ _ _ _ _ _ K;have C:=Z (show cf (b.take (n+1))=cf (b.take n)++[.int .u64 b[n].num,.int .u32 (cC b[n].cs).length,.int .u32 (dz b[n].ks).length,.int .u32 (jv (dz b[n].ks))]by rw[aq g,ze];rfl);have q:=Z a;have R:=Z e;have E:=a.lt;clear K a e r;unfold ar.ptr at X;unfold zf at s;generalize b[n].num=x0 at*;generalize(cC b[n].cs).length=x1 at*;generalize(dz b[n].ks).length=x2 at*;generalize jv (dz b[n].ks)=x3 at*;generalize b[n].tb=tb at*;subst t;go_wp2_with fail
    refine s.mono ?_;rintro ao w1⟨rfl,f⟩;have A:=Z ((I.aR (S:=λ_=>False) f).own (Y q) (λ_ _ y=>y));have ac:=f.size;have z:=Z f;clear f;go_wp2_with(first
     |(at_builtin;go_loud(refine aX _ rfl (.tmp 15) (.tmp 18) 152 rfl w.heap.size 233 G (.agg #[.int .u64 0,.int .u32 0,.int .u32 0,.int .u32 0]) 4 24 underlying152 l m o p rfl (by decide) (.slice ax n y) n (cf (b.take n)) rfl (aM (Y A) _) ⟨w1.heap.size,0,none⟩ 1 1 [.int .u64 x0,.int .u32 x1,.int .u32 x2,.int .u32 x3] rfl rfl (xE _ _ _ _ _ rfl) (by simp[Value.oneCell']) (by omega) (by omega) (by simp;omega) ?_;intro o2 w2 u x;have B:=Z u;have D:=Z x;clear u x)))
    go_roundw;case rel=>
     refine⟨n+1,g,by go_num,by rw[Y C];exact Y B,?_⟩;exact(((Y R).trans (I.aR (S:=λ_=>False) (Y z)) (λ_ y=>y.elim)).alloc _).trans (I.dU (Y D)) (λk a=>.inr (E k a).1)
    case measure=>simp[intOf];omega
   ·have f:n=b.length:=by omega
    subst f;rw[bD]at a;have q:=Z a;have s:=Z r;clear a r e;go_wp2;go_ret;exact⟨_,rfl,Y q,Y s⟩
def DJ(v:M)(w:J):(Go.method 513 105 v "From").run prog w=.ok (286,v) w:=by kernel_rfl
def DI(v:M)(w:J):(Go.method 513 199 v "From").run prog w=.ok (290,v) w:=by kernel_rfl
def jK.sW{V:gz}{a:Nat}{v:M}{c:List ar}{w:J}(h:nI V a v c w)(b:a<=w.heap.size)(hF:∀k,V.F k->k<a):jK V a (.iface 105 v) (bN c) w:=⟨_,v,_,v,rfl,DJ v,enters_of func286 (by kernel_rfl) rfl,λf g d e=>Ji V a v c f g (h.same d) e (aB b d.1) hF⟩
def jK.table{V:gz}{a:Nat}{t:ar}{w:J}(h:kA V a t.tb t.ks t.cs w)(b:a<=w.heap.size)(hF:∀k,V.F k->k<a):jK V a (.iface 199 t.ptr) t.all w:=⟨_,t.ptr,_,t.ptr,rfl,DI t.ptr,enters_of func290 (by kernel_rfl) rfl,λe f c d=>wO V a t.tb t.ks t.cs e f (h.same c) d (aB b c.1) hF⟩
def jK.same{V:gz}{n0:Nat}{c:M}{b:List E}{w w':J}(j:jK V n0 c b w)(hs:ia V n0 (λ_=>False) w w'):jK V n0 c b w':=by
 obtain⟨t,v,f,a,d,e,g,h⟩:=j;exact⟨t,v,f,a,d,e,g,λr u j o=>h r u (hs.trans j) o⟩
def Cc:(prog.info? 175).map (λi=>(i.zero,i.size,i.bytes))=some (some .nilIface,1,16):=by kernel_rfl
def Ik(w:J):Calls prog 199 #[.slice none 0 0] w λp k=>∃j,p=.returned j/\k.ownsRow w.heap.size 102 1 j 0 []/\I (λ_=>False) w k:=by
 obtain⟨n,e,g,h,i⟩:=bK Eg;go_enter func199,ntmps199
 go_wp2_with(first
  |(at_make;go_loud(refine gO _ rfl _ _ 322 rfl w.heap.size 102 n (.slice none 0 0) 1 underlying322 e g h _ _ _ 0 rfl rfl (by omega) (by rw[i];omega) (by unfold maxLen;omega) (ai _) ?_;intro o b a;have d:=Z b;have c:=Z a;clear b a)))
 go_loopw [4,14] (λa i wr=>i=.int .i64 0/\wr.ownsRow w.heap.size 102 1 a 0 []/\wr=o) (λ_ _ _=>0)
 case atStart=>exact⟨rfl,Y d,rfl⟩
 case round=>
  obtain⟨rfl,f,m⟩:=hrel;subst wr;obtain⟨x,q,rfl⟩:=aC f;have l:=Z f;clear f;go_wp2;go_ret;exact⟨_,rfl,Y l,I.bz (S:=λ_=>False) (Y c) (by simp)⟩
structure Kg(w:J)(base:Nat)(t:ar)(bb bJ x eL:Nat):Prop where
 ks:t.ks=aW 0 t.cs
 num:t.num=0
 pieces:mD t.all t.cs
 mem:js w t.tb (.pointer none) 0 0 0 0 bb 0 bJ (.slice (some ⟨x,0,none⟩) (cC t.cs).length eL) t.ks
 data:dq w base (.slice (some ⟨x,0,none⟩) (cC t.cs).length eL) (cC t.cs)
 xO:w.ownsRow base 316 5 (.slice (some ⟨bb,0,none⟩) t.ks.length bJ) t.ks.length (cO t.ks)
 new:base<=t.tb
def uz(w:J)(base:Nat)(t:ar):Prop:=∃a bJ x eL,Kg w base t a bJ x eL
def Kg.ay{S:Nat->Prop}{w w':J}{base:Nat}{t:ar}{d bJ x eL:Nat}(h:Kg w base t d bJ x eL)(a:I S w w')(o:¬S t.tb)(g:¬S d)(r:¬S x):Kg w' base t d bJ x eL:=⟨h.ks,h.num,h.pieces,h.mem.dh (a.block _ h.mem.lt.1 o) (a.block _ h.mem.lt.2 g),a.own h.data (λk e=>by cases e;exact r),a.own h.xO (λk e=>by cases e;exact g),h.new⟩
def uz.ay{w w':J}{base:Nat}{t:ar}(h:uz w base t)(d:I (λ_=>False) w w'):uz w' base t:=by
 obtain⟨a,bJ,x,eL,h⟩:=h;exact⟨a,bJ,x,eL,h.ay d id id id⟩
def Kg.other{S:Nat->Prop}{w j:J}{base:Nat}{t:ar}{e bJ x eL:Nat}(o:Kg w base t e bJ x eL)(q:I S w j)(g:∀k,S k->∃c T d,w.heap[k]?=some (.cells c T d)/\T≠265/\T≠316/\T≠5):Kg j base t e bJ x eL:=by
 refine o.ay q (λh=>?_) (λh=>?_) (λh=>?_)
 ·obtain⟨c,T,d,a,b,_⟩:=g _ h;exact fj a o.mem.box b rfl
 ·obtain⟨c,T,d,a,_,b,_⟩:=g _ h;obtain⟨c2,f⟩:=dS o.xO (k:=e) rfl;exact fj a f b rfl
 ·obtain⟨c,T,d,a,_,_,b⟩:=g _ h;obtain⟨c2,f⟩:=dS o.data (k:=x) rfl;exact fj a f b rfl
def uz.other{S:Nat->Prop}{w a:J}{base:Nat}{t:ar}(h:uz w base t)(f:I S w a)(e:∀k,S k->∃c T d,w.heap[k]?=some (.cells c T d)/\T≠265/\T≠316/\T≠5):uz a base t:=by
 obtain⟨b,bJ,x,eL,h⟩:=h;exact⟨b,bJ,x,eL,h.other f e⟩
def uz.GR{w:J}{base:Nat}{t:ar}(h:uz w base t):GP w t:=by
 obtain⟨a,bJ,x,eL,h⟩:=h;exact⟨_,_,_,_,_,a,_,bJ,_,h.mem⟩
def uz.base{w:J}{base a:Nat}{t:ar}(h:uz w base t)(b:a<=base):uz w a t:=by
 obtain⟨d,bJ,x,eL,h⟩:=h;exact⟨d,bJ,x,eL,h.ks,h.num,h.pieces,h.mem,h.data.base b,gI h.xO b,aB b h.new⟩
structure NT where
 t:ar
 bb:Nat
 bJ:Nat
 x:Nat
 eL:Nat
def NT.Ok(w:J)(base:Nat)(p:NT):Prop:=Kg w base p.t p.bb p.bJ p.x p.eL
def NT.has(p:NT)(k:Nat):Prop:=k=p.t.tb\/k=p.bb\/k=p.x
def NT.jQ(p q:NT):Prop:=∀k,p.has k->¬q.has k
def NT.Ok.lt{w:J}{base:Nat}{p:NT}(h:p.Ok w base):∀k,p.has k->base<=k/\k<w.heap.size:=by
 rintro k(rfl|rfl|rfl)
 ·exact⟨h.new,h.mem.lt.1⟩
 ·exact⟨(h.xO.lt _ rfl).1,h.mem.lt.2⟩
 ·exact dq.lt h.data _ rfl
def NT.Ok.ay{S:Nat->Prop}{w w':J}{base:Nat}{p:NT}(h:p.Ok w base)(d:I S w w')(a:∀k,p.has k->¬S k):p.Ok w' base:=Kg.ay h d (a _ (.inl rfl)) (a _ (.inr (.inl rfl))) (a _ (.inr (.inr rfl)))
def NT.Ok.base{w:J}{base a:Nat}{p:NT}(h:p.Ok w base)(b:a<=base):p.Ok w a:=⟨h.ks,h.num,h.pieces,h.mem,h.data.base b,gI h.xO b,aB b h.new⟩
def NT.Ok.Pt{w:J}{base:Nat}{p:NT}(h:p.Ok w base):uz w base p.t:=⟨_,_,_,_,h⟩
def nH(w:J)(base:Nat)(b:List ar):Prop:=∃a:List NT,a.map NT.t=b/\(∀p∈a,p.Ok w base)/\a.Pairwise NT.jQ
def nH.nil(w:J)(base:Nat):nH w base []:=⟨[],rfl,by simp,dK⟩
def nH.each{w:J}{base:Nat}{a:List ar}(h:nH w base a):∀t∈a,uz w base t:=by
 obtain⟨g,rfl,c,_⟩:=h;intro t e;obtain⟨p,d,rfl⟩:=aZ.1 e;exact(c p d).Pt
def nH.ay{w w':J}{base:Nat}{a:List ar}(h:nH w base a)(o:I (λ_=>False) w w'):nH w' base a:=by
 obtain⟨r,d,e,g⟩:=h;exact⟨r,d,λp h=>(e p h).ay o (λ_ _ c=>c),g⟩
def nH.other{S:Nat->Prop}{w b:J}{base:Nat}{a:List ar}(j:nH w base a)(o:I S w b)(h:∀k,S k->∃c T d,w.heap[k]?=some (.cells c T d)/\T≠265/\T≠316/\T≠5):nH b base a:=by
 obtain⟨q,e,f,g⟩:=j;exact⟨q,e,λp j=>Kg.other (f p j) o h,g⟩
def nH.base{w:J}{base a:Nat}{b:List ar}(l:nH w base b)(j:a<=base):nH w a b:=by
 obtain⟨m,d,f,h⟩:=l;exact⟨m,d,λp l=>(f p l).base j,h⟩
def Ag{a:List NT}{q:NT}(h:a.Pairwise NT.jQ)(d:∀p∈a,p.jQ q):(a++[q]).Pairwise NT.jQ:=by
 rw[bU];exact⟨h,by simp,λe c f b=>by rw[bE]at b;subst b;exact d e c⟩
def Br.Pt{e w:J}{d:Nat}{l:List E}{a:List (List E)}{b bJ c eL:Nat}(h:Br e w d l a b bJ c eL):uz w e.heap.size ⟨d,aW 0 a,a,0⟩:=⟨b,bJ,c,eL,rfl,rfl,by have:=h.pieces;rw[<-this.flat]at this;exact this,h.mem,h.data,h.xO,h.new⟩
def JI(l:List E)(i:Nat){j:Nat}{u:M}(a:(aF (ny l i))[j]?=some u):(aF l)[gu l.length i*4+j]?=some u:=by
 have d:∀(m:List E)(n:Nat),(aF m).drop (n*4)=aF (m.drop n):=by
  intro m n;rcases cJ m.length n with c|c
  ·rw[jH (by rw[iS];omega),jH (by omega)];rfl
  ·conv=>lhs;rw[<-bF n m,eK]
   have:(aF (m.take n)).length=n*4:=by rw[iS,cU,rS c]
   rw[<-this,kg]
 unfold ny at a;generalize gu l.length (i+1)-gu l.length i=e at*;generalize gu l.length i=c at*;have b:(aF (l.drop c))[j]?=some u:=by
  rw[<-bF e (l.drop c),eK,fH]
  ·exact a
  ·rcases cJ j (aF ((l.drop c).take e)).length with k|k
   ·exact k
   ·rw[ci k]at a;cases a
 rw[<-d,jG]at b;exact b
def rK:(prog.info? 199).map (λi=>(i.zero,i.size,i.bytes))=some (some (.pointer none),1,8):=by kernel_rfl
def qM(c:M)(a b:List ar):List (M×List E):=(.iface 105 c,bN b)::a.map (λt=>(.iface 199 t.ptr,t.all))
def nC(a:Bool)(b c:List ar):List E:=pE a (dt ⟨#[]⟩ (bN c::b.map ar.all))
def Nk(w:J)(x:M)(T:TypeId):(w.alloc (.cells #[x] T)).ownsRow w.heap.size T 1 (.slice (some ⟨w.heap.size,0,none⟩) 1 1) 1 [x]:=⟨rfl,.inr ⟨w.heap.size,1,#[x],rfl,ai _,az _ rfl,ai _,by unfold maxLen;omega,rfl,rfl⟩⟩
structure CH(V:gz)(W wr:J)(base:Nat)(o:M)(l:List E)(n:Nat)(tm:List ar):Prop where
 own:wr.ownsRow base 199 1 o n (tm.map ar.ptr)
 len:tm.length=n
 all:tm.map ar.all=(List.range n).map (ny l)
 each:nH wr base tm
 ay:I (λ_=>False) W wr
 D:V.D wr
def CH.step{V:gz}{W wr w1 w2:J}{base:Nat}{o o2:M}{l:List E}{F g:Nat}{z:List ar}{b:List (List E)}{j bJ n eL:Nat}{X:Obj}(p:CH V W wr base o l F z)(P:base<=W.heap.size)(hF:∀k,V.F k->k<W.heap.size)(t:∀k,o.ownBlock=some k->W.heap.size<=k)(c:Br wr w1 g (ny l F) b j bJ n eL)(H:w2.ownsRow base 199 1 o2 (F+1) (z.map ar.ptr++[.pointer (some ⟨g,0,none⟩)]))(y:du (w1.alloc X) w2 o o2):∃A,CH V W w2 base o2 l (F+1) A/\∀k,o2.ownBlock=some k->W.heap.size<=k:=by
 have K:=p.ay.size;have L:=c.ay.size;have w:I (λk=>o.ownBlock=some k) wr w2:=((c.ay.mono (T:=λk=>o.ownBlock=some k) (λ_ B=>B.elim)).alloc X).trans (I.dU y) (λ_ a=>.inl a);have e:∀k,o.ownBlock=some k->∃b,wr.heap[k]?=some (.cells b 199 (0,0)):=λk a=>dS p.own a;have x:I (λk=>o.ownBlock=some k) w1 w2:=((I.refl (λk=>o.ownBlock=some k) w1).alloc X).trans (I.dU y) (λ_ a=>.inl a);refine⟨z++[⟨g,aW 0 b,b,0⟩],⟨?_,by rw[ag,p.len];rfl,?_,?_,p.ay.trans w (λk a=>.inr (t k a)),V.dF p.D w (λk a r=>?_)⟩,?_⟩
 ·rw[aN];exact H
 ·rw[aN,p.all,rU,aN];show _++[b.flatten]=_;rw[c.pieces.flat];rfl
 ·obtain⟨O,G,q,C⟩:=p.each;have D:NT.Ok w1 wr.heap.size ⟨⟨g,aW 0 b,b,0⟩,j,bJ,n,eL⟩:=⟨rfl,rfl,by have:=c.pieces;rw[<-this.flat]at this;exact this,c.mem,c.data,c.xO,c.new⟩;refine⟨O++[⟨⟨g,aW 0 b,b,0⟩,j,bJ,n,eL⟩],by rw[aN,G];rfl,λN d=>?_,Ag C (λN d k a v=>?_)⟩
  ·rcases aw.1 d with d|d
   ·exact Kg.other (q N d) w (λk a=>by obtain⟨B,h⟩:=e k a;exact⟨B,_,_,h,by decide,by decide,by decide⟩)
   ·rw[bE]at d;subst d;refine Kg.other (NT.Ok.base D (by omega)) x (λk a=>?_);obtain⟨B,h⟩:=e k a;exact⟨B,_,_,(c.ay.block k (ak h) id).trans h,by decide,by decide,by decide⟩
  ·have h:=((q N d).lt k a).2;have Q:=(D.lt k v).1;omega
 ·have q:=t k a;have C:=hF k r;omega
 ·intro k a;rcases y.sr with d|⟨v,d,h⟩
  ·exact t k (d.symm.trans a)
  ·rw[d]at a;cases a;simp at h;omega
def Il(l:List E)(C:M)(w:J)(base:Nat)(m:w.ownsRow base 177 4 C l.length (aF l))(y:l.length<=1000000000):∃b:List M,b.length=fK l.length/\(∀n(e:n<b.length),∃g d a,b[n]=.slice (some ⟨g,d,none⟩) (ny l n).length a/\g<w.heap.size/\∀A B,(aF (ny l n))[A]?=some B->w.cell? ⟨g,d+A,none⟩=some B)/\Calls prog 199 #[C] w λF q=>∃p,F=.returned p/\q.ownsRow w.heap.size 102 1 p b.length b/\I (λ_=>False) w q:=by
 have z:=cW m;obtain⟨G,⟨rfl,t⟩|⟨g,a,s,rfl,u,f,h,c,_⟩⟩:=m
 ·refine⟨[],by rw[t];rfl,λn e=>absurd e (fy n),Ik w⟩
 ·refine⟨(List.range (fK l.length)).map (AK g 0 a l.length),by simp,λn e=>?_,?_⟩
  ·have j:n<fK l.length:=by simpa using e
   refine⟨g,0+gu l.length n*4,a-gu l.length n,?_,ak f,λA B x=>?_⟩
   ·simp only[gm,List.getElem_range,AK];rw[(sQ j).1]
   ·obtain⟨_,⟨r,_⟩|⟨D,o,k,r,_,v⟩⟩:=z
    ·cases r
    ·cases r;rw[aP];exact v _ _ (JI l n x)
  ·have j:=Fo l.length g 0 a w y h (by unfold maxLen at c;omega);simpa using j
def ui(V:gz)(m b1 y bf:Nat)(z:M)(a c:List ar)(b:Bool)(w:J)(h1:∀i(hi:i<a.length),w.cell? ⟨b1,y+i,none⟩=some a[i].ptr)(dx:b1<m/\¬V.F b1)(bg:∀fv∈a,kA V m fv.tb fv.ks fv.cs w)(fd:a.length<=100000000)(h2:nI V m z c w)(hD:V.D w)(x:m<=w.heap.size)(hF:∀k,V.F k->k<m)(hT:Steps w)(dT:1<m/\¬V.F 1)(hg:∀fx∈nC b a c,fx.Good)(hl:(dt ⟨#[]⟩ (bN c::a.map ar.all)).length<=1000000):Calls prog 155 #[.slice (some ⟨b1,y,none⟩) a.length bf,z,.bool b] w λcn N=>∃vm,∃H:List ar,cn=.returned (.tuple #[vm,.nilIface])/\N.ownsRow w.heap.size 199 1 vm H.length (H.map ar.ptr)/\H.map ar.all=jf (nC b a c)/\nH N w.heap.size H/\V.D N/\I V.F w N:=by
 obtain⟨i0,eb,eo,cl,eq⟩:=bK Cc;obtain⟨j0,ec,el,em,en⟩:=bK rK;have X:(qM z a c).length=a.length+1:=by simp[qM]
 have p:∀wr e,I (λ_=>False) w wr->wr.ownsRow w.heap.size 175 1 e (a.length+1) ((qM z a c).map (·.1))->Calls prog 92 #[e,.string ⟨#[]⟩] wr λcn N=>∃d b,cn=.returned d/\gy V m d (dt ⟨#[]⟩ (bN c::a.map ar.all)) b N/\V.D N/\I V.F wr N/\(∀k,b k->wr.heap.size<=k):=by
  intro wr e ht E;have h:ia V m (λ_=>False) w wr:=ht.same x (λ_ f=>f.elim) (λ_ f=>f.elim);have hn:=zb V m (qM z a c) e ⟨#[]⟩ wr (by rw[X];exact cW E) (λk j=>⟨(E.lt k j).2,λf=>by have:=hF k f;have:=(E.lt k j).1;omega⟩) (by omega) (by
   intro i hi;cases i with
   |zero=>exact(jK.sW h2 x hF).same h
   |succ i=>
    have g:i<a.length:=by rw[X]at hi;omega
    have:(qM z a c)[i+1]=(.iface 199 a[i].ptr,a[i].all):=by simp[qM]
    rw[this];exact(jK.table (bg _ (au g)) x hF).same h) (V.dF hD ht (λ_ f=>f.elim)) (aB x ht.size) hF
  have o:(qM z a c).map (·.2)=bN c::a.map ar.all:=by simp[qM]
  rw[o]at hn;exact hn
 obtain⟨Q,R⟩:∃Q,dt ⟨#[]⟩ (bN c::a.map ar.all)=Q:=⟨_,rfl⟩;obtain⟨d,q⟩:∃d,nC b a c=d:=⟨_,rfl⟩;have U:d=pE b Q:=by rw[<-q,<-R];rfl
 rw[R]at p hl;rw[q]at hg|-;have fk:d.length<=1000000:=by rw[U];have:=(iE b Q).length_le;omega
 have A:=Z U;clear R q U;have ao:=Z p;have HC:=Z (show∀wr,I (λ_=>False) w wr->∀i(hi:i<a.length),wr.cell? ⟨b1,y+i,none⟩=some a[i].ptr fromλwr ht i hi=>ht.cell (h1 i hi) id (ah dx.1 x));have dn:=Z (show∀wr,I V.F w wr->Steps wr fromλwr ht k j=>ht.cell (hT k j) dT.2 hT.lt);have HG:=Z hg;have HF:=Z hF;clear h1 bg h2 hD hT p hg hF;go_enter func155,ntmps155
 go_wp2;go_loopw [8,22] (λfb i wr=>∃n:Nat,n<=a.length/\i=.int .i64 n/\wr.ownsRow w.heap.size 175 1 fb (n+1) (((qM z a c).take (n+1)).map (·.1))/\I (λ_=>False) w wr) (λ_ i _=>a.length-(intOf i).toNat)
 case atStart=>exact⟨0,aU _,rfl,Nk _ _ _,(I.refl _ _).alloc _⟩
 case round=>
  obtain⟨n,hn,rfl,e,h⟩:=hrel;obtain⟨fx,f,E⟩:=aC e;have ex:=h.size;have ei:=e.lt;by_cases bs:n<a.length
  ·have B:=(Y HC) wr h n bs;have r:=Z (show((qM z a c).take (n+1+1)).map (·.1)=((qM z a c).take (n+1)).map (·.1)++[.iface 199 (.pointer (some ⟨a[n].tb,0,none⟩))]from by
    rw[aq (by rw[X];omega),aN];simp[qM,ar.ptr])
   have u:=Z e;have HT:=Z h;clear e h;unfold ar.ptr at B;generalize a[n].tb=tb at*;subst E;go_wp2_with(first
    |(at_builtin;go_loud(refine aX _ rfl (.tmp 26) (.tmp 29) 172 rfl w.heap.size 175 i0 .nilIface 1 16 underlying172 eb eo cl eq rfl (by decide) (.slice fx (n+1) f) (n+1) (((qM z a c).take (n+1)).map (·.1)) rfl (aM (Y u) _) ⟨wr.heap.size,0,none⟩ 1 1 [.iface 199 (.pointer (some ⟨tb,0,none⟩))] rfl rfl (nY _ _ _) (by simp[Value.oneCell']) (by omega) (by omega) (by simp;omega) ?_;intro o2 w2 t g;have o:=Z t;have s:=Z g;clear t g)))
   go_roundw;case rel=>
    refine⟨n+1,bs,by go_num,by rw[Y r];exact Y o,?_⟩;exact((Y HT).alloc _).trans (I.dU (Y s)) (λk j=>.inr (ei k j).1)
   case measure=>simp[intOf];omega
  ·have ef:n=a.length:=by omega
   subst ef;rw[bP (by omega)]at e;have eg:=(Y ao) wr u8 h e;have HT:=Z h;clear e h;subst E;go_wp2_with fail
   refine eg.mono ?_;rintro cn w1⟨v1,S1,rfl,D,B,ch,C⟩;have P:=Z ((Y HT).mono (T:=V.F) (λ_ f=>f.elim)|>.trans ch (λ_ f=>.inl f));have fl:=(Y HT).size;clear ch;cases b;case' false=>
    obtain rfl:d=Q:=Y A;clear A;have ac:=Z D;have O:=Z B;have bd:=Z (Y P);have bc:=Z (show∀k,S1 k->w.heap.size<=k fromλk f=>by have:=C k f;omega);clear C D B;go_wp2_with fail
    refine(xA V m v1 d S1 w1 (Y ac) (Y O) (by omega)).mono ?_
   case' true=>
    have bT:d=Q.filter (λcn=>!cn.del):=Y A;have ca:=wW V m v1 Q S1 w1 D;rw[<-bT]at ca;have cl:=(Y P).size;have dk:=Z C;have O:=Z B;clear C D B bT A;go_wp2_with fail
    refine ca.mono ?_;rintro cn ev⟨et,Sp,rfl,br,ac,bo⟩;have cE:=Z br;have cv:=Z (V.dF (Y O) (I.aR (S:=λ_=>False) ac) (λ_ f=>f.elim));have bd:=Z ((Y P).trans (I.aR (S:=λ_=>False) ac) (λ_ f=>f.elim));have bc:=Z (show∀k,Sp k->w.heap.size<=k fromλk j=>(bo k j).elim (λf=>by have:=(Y dk) k f;omega) (λf=>by omega));clear br ac bo;go_wp2_with fail
    refine(xA V m et d Sp ev (Y cE) (Y cv) (by omega)).mono ?_
   all_goals
    rintro cn w2⟨eu,rfl,t,bh,cj⟩;obtain⟨PV,W,bl,cc⟩:=Il _ eu w2 _ t (by omega);have L:I V.F w w2:=(Y bd).trans cj (λk j=>j.elim (λf=>.inr ((Y bc) k f)) .inl);have db:=Z bl;have o:=Z L;have al:=Z bh;clear t bh cj bl L;obtain⟨cp,hN⟩:∃cp,PV.length=cp:=⟨_,rfl⟩;have fe:cp<=1000000:=by rw[<-hN,W];unfold fK;omega
    have HN:=Z hN;have ax:=Z W;rw[hN]at cc;clear hN W;go_wp2_with fail
    refine cc.mono ?_;rintro cn W3⟨pv,rfl,ad,F⟩;obtain⟨px,pc,rfl⟩:=aC ad;have ba:=Z ad;have bb:=Z F;have ce:w.heap.size<=W3.heap.size:=aB (Y o).size F.size;have bi:=V.dF (Y al) F (λ_ f=>f.elim);have cs:=Z bi;clear ad F bi;go_wp2;go_loopw [14,48] (λfb i wr=>∃n:Nat,n<=cp/\i=.int .i64 n/\∃H,CH V W3 wr w.heap.size fb d n H/\∀k,fb.ownBlock=some k->W3.heap.size<=k) (λ_ i _=>cp-(intOf i).toNat)
    case atStart=>exact⟨0,aU _,rfl,[],⟨bC _ _ _ _,rfl,rfl,nH.nil _ _,I.refl _ _,Y cs⟩,(by intro k j;cases j)⟩
    case round=>
     obtain⟨n,fn,rfl,H,g,r⟩:=hrel;obtain⟨ox,oc,E⟩:=aC g.own;by_cases s:n<cp
     ·obtain⟨pg,fu,ej,_,ek,_⟩:=qg (Y ba) (by omega);cases ej;obtain⟨fz,cm,K,cb,bq,bp⟩:=(Y db) n (by rw[Y HN];exact s);have G:I (λ_=>False) w2 wr:=(Y bb).trans g.ay (λ_ f=>f.elim);have ea:wr.cell? ⟨pg,n,none⟩=some (.slice (some ⟨fz,cm,none⟩) (ny d n).length K):=by
       refine g.ay.cell ?_ id ek;obtain⟨_,⟨f,_⟩|⟨b',ey,dv,f,_,hc⟩⟩:=cW (Y ba)
       ·cases f
       ·cases f;have:=hc n PV[n] (aA _);rw[cb]at this;simpa using this
      have u:=sQ (l:=d) (i:=n) (by rw[<-Y ax,Y HN];exact s);have cd:=(Y dn) wr ((Y o).trans G (λ_ f=>f.elim));have bt:=yt (ny d n) fz cm K wr cd (ah bq G.size) (λj c a=>G.cell (bp j c a) id bq) u.2.1 (λy b=>(Y HG) y (cg (dC b))) (by omega);have bk:∀k,V.F k->k<W3.heap.size:=λk j=>by have:=(Y HF) k j;omega
      have HM:=Z g;have an:=Z r;have cB:=Z bk;have fs:=g.ay.size;have e8:(n:Int)<(cp:Int):=by omega
      have e9:(0:Int)<=(n:Int):=by omega
      clear g r bk cd G cb bp u;generalize bn:ny d n=pn at*;have dc:=Z bn;clear bn;subst E;go_wp2_with fail
      refine bt.mono ?_;rintro cn w4⟨tb,gb,fL,bJ,gc,eL,rfl,hf⟩;have cM:=Z (hf.ay.own (Y HM).own (λ_ _ f=>f));have fr:=hf.ay.size;have cx:=Z hf;clear hf;go_wp2_with(first
       |(at_builtin;go_loud(refine aX _ rfl (.tmp 52) (.tmp 55) 105 rfl w.heap.size 199 j0 (.pointer none) 1 8 underlying105 ec el em en rfl (by decide) (.slice ox n oc) n (H.map ar.ptr) rfl (aM (Y cM) _) ⟨w4.heap.size,0,none⟩ 1 1 [.pointer (some ⟨tb,0,none⟩)] rfl rfl (nY _ _ _) (by simp[Value.oneCell']) (by omega) (by omega) (by simp;omega) ?_;intro o2 w5 bx ck;have cT:=Z bx;have ds:=Z ck;clear bx ck)))
      go_roundw;case rel=>
       have hf:=Y cx;rw[<-Y dc]at hf;obtain⟨es,ed,ee⟩:=(Y HM).step ce (Y cB) (Y an) hf (Y cT) (Y ds);exact⟨n+1,s,by go_num,es,ed,ee⟩
      case measure=>simp[intOf];omega
     ·have bv:n=cp:=by omega
      subst bv;have HM:=Z g;clear g r;subst E;go_wp2;go_ret2
      have g:=Y HM;refine⟨_,H,rfl,by rw[g.len];exact g.own,?_,g.each,g.D,((Y o).trans (Y bb) (λ_ f=>f.elim)).trans g.ay (λ_ f=>f.elim)⟩;rw[g.all,<-Y HN,Y ax];rfl
def Jh(n:Nat)(w:J)(t:n<=1000000000):Calls prog 149 #[.slice none 0 0,.int .i64 n] w λr p=>∃o,r=.returned o/\p.ownsRow w.heap.size 199 1 o 0 []/\I (λ_=>False) w p:=by
 obtain⟨j,h,i,q,d⟩:=bK rK;have s:¬((n:Int)<0):=by omega
 rcases de n with f|f
 ·subst f;go_enter func149,ntmps149
  go_wp2;go_ret;exact⟨_,rfl,bC _ _ _ _,I.refl _ _⟩
 ·have b:(Builtin.firstCells j.size 0 (.slice none 0 0)).run prog w.drew=.ok ([]:List M).toArray w.drew:=run_firstCells_none w.drew j.size 0 0 0;have c:∀k,(Builtin.append_ #[105,3] k #[.slice none 0 0,.int .i64 n]).run prog w=_:=λk=>
   Lib.run_append_grow_zeros w 105 3 k 199 j (.pointer none) .i64 .i64 underlying105 underlying3 h i none 0 0 [] b n f (by omega) (by omega) (by omega) (by rw[d];omega) (sy (by omega) (by rw[d];omega))
  simp only[cw]at c;have g:n<=grownCap w n 0 199:=grownCap_ge w _ _ _;have a:=oE w n 0 199 (by unfold maxLen;omega);obtain⟨G,l⟩:∃G,G=grownCap w n 0 199:=⟨_,rfl⟩;rw[<-l]at c g a;have e:=Z (show(w.alloc (.cells (Builtin.zeroCells #[Value.pointer none] n++Builtin.zeroCells #[Value.pointer none] (G-n)) 199)).drew.ownsRow w.heap.size 199 1 (.slice (some ⟨w.heap.size,0,none⟩) 0 G) 0 []from hZ (World.ownsRow_made w _ G (ai _) a (by simp[size_zeroCells];omega)) rfl);have m:G<=9223372036854775807:=by unfold maxLen at a;omega
  clear b l a;go_enter func149,ntmps149
  go_wp2_with(at_builtin;refine Lib.wpList_append_run _ rfl _ _ _ _ rfl _ _ rfl rfl _ _ (c _) ?_)
  go_ret;exact⟨_,rfl,Y e,((I.refl (λ_=>False) w).alloc _).of_heap rfl⟩
def kW(a:List (M×List ar)):List M:=(a.map (λp=>p.2.map ar.ptr)).flatten
def jm(a:List (M×List ar)):Nat:=(a.map (λp=>p.2.length)).sum
def FJ(a:List (M×List ar))(p:M×List ar):kW (a++[p])=kW a++p.2.map ar.ptr:=by simp[kW]
def Au(a:List (M×List ar))(p:M×List ar):jm (a++[p])=jm a+p.2.length:=by simp[jm]
def Nj(a:List (M×List ar)):(kW a).length=jm a:=by
 induction a with
 |nil=>rfl
 |cons p r b=>unfold kW jm at*;simp only[aY,aT,ag,fA,b,bW]
def vQ(a:List (M×List ar))(n:Nat):jm (a.take n)<=jm a:=by
 have h:=bB (λl=>(l.map (λp:M×List ar=>p.2.length)).sum) (bF n a);simp only[aN,eG]at h;unfold jm;omega
def pt(G f t:Nat)(a:List (M×List ar))(w:J)(hc:∀i(h:i<a.length),w.cell? ⟨G,f+i,none⟩=some a[i].1)(hb:G<w.heap.size)(hr:∀i(h:i<a.length),Row w 1 a[i].1 a[i].2.length (a[i].2.map ar.ptr))(B:∀i(h:i<a.length),∀ax,a[i].1.ownBlock=some ax->ax<w.heap.size)(hn:a.length<=1000000)(hs:jm a<=100000000):Calls prog 104 #[.slice (some ⟨G,f,none⟩) a.length t] w λbi w'=>∃v',bi=.returned v'/\w'.ownsRow w.heap.size 199 1 v' (jm a) (kW a)/\I (λ_=>False) w w':=by
 obtain⟨i0,y,al,an,ao⟩:=bK rK;have HC:=Z (show∀wr,I (λ_=>False) w wr->∀i(h:i<a.length),wr.cell? ⟨G,f+i,none⟩=some a[i].1 fromλwr ht i h=>ht.cell (hc i h) id hb);have HR:=Z (show∀wr,I (λ_=>False) w wr->∀i(h:i<a.length),Row wr 1 a[i].1 a[i].2.length (a[i].2.map ar.ptr)fromλwr ht i h=>ht.row (hr i h) (λax V=>⟨id,B i h ax V⟩));clear hc hr B;go_enter func104,ntmps104
 go_wp2;go_loopw [3,11] (λR i wr=>∃n:Nat,n<=a.length/\i=.int .i64 n/\R=.int .i64 (jm (a.take n):Nat)/\wr=w) (λ_ i _=>a.length-(intOf i).toNat)
 case atStart=>exact⟨0,aU _,rfl,rfl,rfl⟩
 case round=>
  obtain⟨n,bd,rfl,rfl,bf⟩:=hrel;subst wr;by_cases g:n<a.length
  ·have U:=(Y HC) w (I.refl _ _) n g;have m:=(Y HR) w (I.refl _ _) n g;have o:=vQ a (n+1);have d:=Z (show jm (a.take (n+1))=jm (a.take n)+a[n].2.length by rw[aq g,Au]);rw[Y d]at o;generalize a[n].1=v at*;generalize a[n].2=K at*;generalize jm (a.take n)=j at*;obtain⟨H,⟨rfl,u⟩|⟨bh,E,s,rfl,W,k⟩⟩:=m
   ·have b:=Z u;clear H u;go_wp2;go_roundw;case rel=>exact⟨n+1,g,by go_num,by rw[Y d,Y b,kD],trivial⟩
    case measure=>simp[intOf];omega
   ·clear H k;have b:¬((j:Int)+(K.length:Int)<0):=by omega
    go_wp2;go_roundw;case rel=>exact⟨n+1,g,by go_num,by rw[Y d];go_num,trivial⟩
    case measure=>simp[intOf];omega
  ·have l:n=a.length:=by omega
   subst l;rw[bD];have x:=Jh (jm a) w (by omega);obtain⟨bg,S⟩:∃bg,jm a=bg:=⟨_,rfl⟩;rw[S]at x hs|-;have L:=Z S;clear S;go_wp2_with fail
   refine x.mono ?_;rintro bi w1⟨v1,rfl,z,C⟩;have N:=Z z;have P:=Z C;clear z C;go_wp2;go_loopw [6,27] (λo i wr=>∃n:Nat,n<=a.length/\i=.int .i64 n/\wr.ownsRow w.heap.size 199 1 o (jm (a.take n)) (kW (a.take n))/\I (λ_=>False) w wr) (λ_ i _=>a.length-(intOf i).toNat)
   case atStart=>exact⟨0,aU _,rfl,Y N,Y P⟩
   case round=>
    obtain⟨n,ba,rfl,b,e⟩:=hrel;have ac:=b.lt;have ad:=e.size;have bb:=vQ a n;by_cases c:n<a.length
    ·have U:=(Y HC) wr e n c;have m:=(Y HR) wr e n c;have o:=vQ a (n+1);have d:=Z (show jm (a.take (n+1))=jm (a.take n)+a[n].2.length by rw[aq c,Au]);have r:=Z (show kW (a.take (n+1))=kW (a.take n)++a[n].2.map ar.ptr by rw[aq c,FJ]);rw[Y d,Y L]at o;generalize a[n].1=v at*;generalize a[n].2=K at*;generalize kW (a.take n)=pn at*;generalize jm (a.take n)=j at*;obtain⟨bc,R,X⟩:=aC b;have q:=Z b;have F:=Z e;clear b e;subst X;obtain⟨H,⟨rfl,u⟩|⟨bh,E,s,rfl,W,k⟩⟩:=m
     ·obtain rfl:=aG u;clear H u;have A:∀a,(Builtin.append_ #[105,105] a #[.slice bc j R,.slice none 0 0]).run prog wr=.ok (.slice bc j R) wr:=λa=>run_append_owned_none wr w.heap.size 105 a 199 i0 1 underlying105 y (.slice bc j R) j pn (Y q);go_wp2_with(at_builtin;refine Lib.wpList_append_run _ rfl _ _ _ _ rfl _ _ rfl rfl _ _ (A _) ?_)
      go_roundw;case rel=>
       refine⟨n+1,c,by go_num,?_,Y F⟩;rw[Y d,Y r];simpa using Y q
      case measure=>simp[intOf];omega
     ·go_wp2_with(first
       |(at_builtin;go_loud(refine aX _ rfl (.tmp 31) (.tmp 32) 105 rfl w.heap.size 199 i0 (.pointer none) 1 8 underlying105 y al an ao rfl (by decide) (.slice bc j R) j pn rfl (Y q) ⟨bh,E,none⟩ K.length s (K.map ar.ptr) rfl (by simp) (λbl bk hj=>by rw[ct];exact k bl bk hj) (by intro bk hu;obtain⟨bn,_,rfl⟩:=aZ.1 hu;rfl) (by omega) (by omega) ad ?_;intro o2 w2 A D;have O:=Z A;have Q:=Z D;clear A D)))
      go_roundw;case rel=>
       refine⟨n+1,c,by go_num,by rw[Y d,Y r];exact Y O,?_⟩;exact(Y F).trans (I.dU (Y Q)) (λax V=>.inr (ac ax V).1)
      case measure=>simp[intOf];omega
    ·have l:n=a.length:=by omega
     subst l;rw[bD,Y L]at b;obtain⟨bc,R,X⟩:=aC b;have q:=Z b;have F:=Z e;clear b e;subst X;go_wp2;go_ret;exact⟨_,rfl,by rw[Y L];exact Y q,Y F⟩
structure xQ(w:J)(lb lo:Nat)(Ls:List (M×List ar)):Prop where
 len:Ls.length=4
 cell:∀i(hi:i<Ls.length),w.cell? ⟨lb,lo+i,none⟩=some Ls[i].1
 row:∀i(hi:i<Ls.length),Row w 1 Ls[i].1 Ls[i].2.length (Ls[i].2.map ar.ptr)
 lM:∀i(hi:i<Ls.length),∀k,Ls[i].1.ownBlock=some k->k<w.heap.size
 small:jm Ls<=100000000
def xQ.lt{w:J}{lb a:Nat}{b:List (M×List ar)}(h:xQ w lb a b):lb<w.heap.size:=cI w ⟨lb,a+0,none⟩ (h.cell 0 (by have:=h.len;omega))
def oh(w:J)(b c:Nat)(a:List (M×List ar))(h:xQ w b c a):Calls prog 132 #[.pointer (some ⟨b,c,none⟩)] w λo w'=>∃g,o=.returned g/\w'.ownsRow w.heap.size 199 1 g (jm a) (kW a)/\I (λ_=>False) w w':=by
 have d:=pt b c 4 a w h.cell h.lt h.row h.lM (by have:=h.len;omega) h.small;rw[h.len]at d;clear h;go_enter func132,ntmps132
 go_wp2_with fail
 refine d.mono ?_;rintro o p⟨n,rfl,e,f⟩;have l:=Z e;have m:=Z f;clear e f;go_wp2;go_ret;exact⟨n,rfl,Y l,Y m⟩
def gN(a:List (M×List ar))(n:Nat):Bool:=(a.drop n).all (λp=>p.2.isEmpty)
def zB{a:List (M×List ar)}{n:Nat}(h:n<a.length):gN a n=(a[n].2.isEmpty&&gN a (n+1)):=by
 unfold gN;rw[bm h,pX]
def sV(w:J)(u x n:Nat)(d:List (M×List ar))(s:xQ w u x d)(U:n<=4):Calls prog 156 #[.pointer (some ⟨u,x,none⟩),.int .i64 n] w λK H=>K=.returned (.bool (gN d n))/\H=w:=by
 have f:=s.len;have F:=s.small;have y:=Z s.cell;have z:=Z s.row;clear s;rcases cJ n 4 with C|C
 ·have L:(n:Int)<=4:=by omega
  have N:¬(4-n=0):=by omega
  have O:¬(4=n):=by omega
  have P:(0:Int)<=(n:Int):=by omega
  go_enter func156,ntmps156
  go_wp2;go_loopw [12] (λi wr=>∃m:Nat,n+m<=4/\i=.int .i64 m/\gN d n=gN d (n+m)/\wr=w) (λi _=>4-n-(intOf i).toNat)
  case atStart=>exact⟨0,by omega,rfl,rfl,rfl⟩
  case round=>
   obtain⟨m,R,rfl,e,r⟩:=hrel;subst wr;by_cases E:m<4-n
   ·have p:n+m<d.length:=by omega
    have o:=(Y y) (n+m) p;have q:=(Y z) (n+m) p;have b:=zB p;rw[<-aP]at o;have HEq:=Z e;clear e;generalize d[n+m].1=v at*;generalize d[n+m].2=k at*;have B:(m:Int)<((4-n:Nat):Int):=by omega
    obtain⟨l,⟨rfl,t⟩|⟨W,G,A,rfl,D,g⟩⟩:=q
    ·obtain rfl:=aG t;have c:=Z b;clear l t b;go_wp2;go_roundw;case rel=>exact⟨m+1,by omega,by go_num,by rw[Y HEq,Y c];rfl,trivial⟩
     case measure=>simp[intOf];omega
    ·rcases de k.length with j|j
     ·obtain rfl:=aG j;have c:=Z b;clear l b g j;go_wp2;go_roundw;case rel=>exact⟨m+1,by omega,by go_num,by rw[Y HEq,Y c];rfl,trivial⟩
      case measure=>simp[intOf];omega
     ·have h:k.isEmpty=false:=by cases k with|nil=>simp at j|cons V X=>rfl
      rw[h,sI]at b;have c:=Z b;clear l b g h;have Q:(0:Int)<(k.length:Int):=by omega
      go_wp2;go_ret;exact⟨by rw[Y HEq,Y c];rfl,rfl⟩
   ·have b:n+m=4:=by omega
    have a:gN d n=true:=by rw[e,b,<-f];unfold gN;rw[eJ];rfl
    have c:=Z a;have B:¬(m:Int)<((4-n:Nat):Int):=by omega
    clear a e b;go_wp2;go_ret;exact⟨by rw[Y c];rfl,rfl⟩
 ·obtain rfl:n=4:=by omega
  have a:gN d 4=true:=by rw[<-f];unfold gN;rw[eJ];rfl
  rw[a];go_enter func156,ntmps156
  go_wp2;go_loopw [12] (λi wr=>i=.int .i64 0/\wr=w) (λ_ _=>0)
  case atStart=>exact⟨rfl,rfl⟩
  case round=>
   obtain⟨rfl,r⟩:=hrel;subst wr;go_wp2;go_ret;exact⟨rfl,rfl⟩
section
open Go.Shelf
attribute [local go_sem] Oper.semAt_some
def bk(a:List M):Nat->List (Nat×M)
 |0=>[]
 |j+1=>(j,a.getD j .nilIface)::bk a j
def NU(p:Nat×M):Array M:=#[.int .i64 p.1,p.2]
def Cx(v:M)(x:Option Addr)(n c:Nat)(a:v=.slice x n c)(w:J):Calls prog 188 #[v] w λe b=>e=.returned (.func (.func 228) #[] #[.pointer (some ⟨w.heap.size,0,none⟩)])/\b=w.alloc (.cells #[v] 105):=by
 subst a;go_enter func188,ntmps188
 go_wp2;go_ret;exact⟨rfl,rfl⟩
def GO(n0 m h:Nat)(an:M)(a:List M)(w:J)(R:dY w h an 105)(W:Row w 1 an a.length a)(k:∀p,an.ownBlock=some p->p<n0)(U:n0<=w.heap.size)(bc:a.length<=1000000000):Oq NU OT n0 m 228 #[.pointer (some ⟨h,0,none⟩)] (bk a a.length) (λp=>p=h) w:=by
 intro lr bf Jx bd bg X hD hJ z C ac hY;obtain⟨x,ax,hv⟩:=bA W;have HB:=Z R;have HR:=Z W;have K:=Z k;have HS:=Z X;have HJ:=Z hJ;have O:=Z z;have HY:=Z hY;have L:=Z C;have ba:bg.cell? ⟨h,0,none⟩=some an:=X.cell (.inl rfl) R.cell;clear R W k X hJ z C ac hY hD;subst hv;refine tV func228 rfl trivial ?_ rfl;simp only[ntmps228,gC,aE,cH,Nat.reduceAdd,Nat.reduceSub,fq,fp,gD,fI,cL,dI];gi_wp2;gi_loopw [3] (λi wr=>∃(j:Nat)(c:List (Nat×M))(u:Nat->Prop),i=.int .i64 ((j:Int)-1)/\j<=a.length/\bk a a.length=c++bk a j/\bf c u wr/\(∀p,p=h->¬u p)/\ia OT n0 (λp=>p=h) w wr) (λi _=>(intOf i+1).toNat)
 case atStart=>exact⟨a.length,[],bd,by go_num,ai _,rfl,Y HJ,Y O,Y HS⟩
 case round=>
  obtain⟨j,c,u,rfl,hj,i,d,e,b⟩:=hrel;have bb:wr.cell? ⟨h,0,none⟩=some (.slice x a.length ax):=b.cell (.inl rfl) (Y HB).cell;cases j with
  |zero=>
   have q:=Z d;have H:=Z i;clear d e b i;gi_wp2;refine bodyPost_end (jE rfl _ _ _) rfl ?_;refine⟨⟨_,rfl⟩,.inl ⟨u,?_,trivial⟩⟩;have i:=Y H;rw[show bk a 0=[]from rfl,cN]at i;rw[i];exact Y q
  |succ j=>
   have ej:(((j+1:Nat):Int)-1)=(j:Int):=by omega
   rw[ej];have r:a.getD j .nilIface=a[j]:=by rw[oI,aA hj];rfl
   have A:∃ao t,x=some ⟨ao,t,none⟩/\wr.cell? ⟨ao,t+j,none⟩=some a[j]:=by
    obtain⟨h1,⟨G,h0⟩|⟨al,s,F,G,T,Q⟩⟩:=Y HR
    ·omega
    ·cases G;exact⟨al,s,rfl,b.cell (.inr ⟨(Y K) _ rfl,id⟩) (Q j _ (aA hj))⟩
   obtain⟨ao,t,E,A⟩:=A;have o:(c++[(j,a[j])])<+:bk a a.length:=⟨bk a j,by rw[i,show bk a (j+1)=(j,a.getD j .nilIface)::bk a j from rfl,r];simp⟩;have B:bk a a.length=(c++[(j,a[j])])++bk a j:=by rw[i,show bk a (j+1)=(j,a.getD j .nilIface)::bk a j from rfl,r];simp
   have H:=Z B;obtain⟨fn,ad,D,body,hy,hR⟩:=(Y HY) c (j,a[j]) u wr o d trivial;unfold NU at hy;simp only at hy;have N:=Z hR;have q:=Z d;have P:=Z b;have g:=Z e;clear d b e i B o hR r ej;generalize a[j]=xj at*;have e1:(j:Int)<(a.length:Int):=by omega
   have e2:(0:Int)<=(j:Int):=by omega
   subst E;gi_wp2;refine⟨(λax=>(by cases ax)),(Y N).mono ?_⟩;rintro bh W3(⟨rfl,_,B3,y,f,v⟩|⟨rfl,E⟩)
   ·have G:=Z y;have Q:=Z f;have F:=Z v;clear y f v;gi_wp2;go_roundw;case rel=>
     have f:=Y Q;have b:=Y P;have T:h<wr.heap.size:=ah (ak (Y HB)) b.1;refine⟨j,c++[(j,xj)],B3,by go_num,by omega,Y H,Y G,λp s al=>?_,?_⟩
     ·rcases(Y F) p al with al|al
      ·exact(Y g) p s al
      ·subst s;omega
     ·refine b.trans ?_;exact f.same (aB U b.1) (λp s=>⟨by subst s;exact T,(Y g) p s⟩) (λp s a=>by have:=((Y L) _ _ _ (Y q) p s).1;omega)
    case measure=>simp[intOf]
   ·have s:=Z E;clear E;gi_wp2;refine bO (jE rfl _ _ _) rfl ?_;exact⟨⟨_,rfl⟩,.inr ⟨_,Y s⟩⟩
end
def Mz{b c:List ar}(h:b.Sublist c):nP b<=nP c:=by
 induction h with
 |slnil=>exact ai _
 |cons x _ a=>unfold nP at*;simp only[aY,fA];omega
 |cons_cons x _ a=>unfold nP at*;simp only[aY,fA];omega
def Qx{α β γ:Type}(K:α->β->Prop)(P:γ->β->Prop){a:γ->α}{G:Prop}(h:(∀x b,P x b->K (a x) b)->G)(k:∀x b,P x b->K (a x) b):G:=h k
def vk(w:J)(c d i:Nat)(v1 h:M)(a g:List ar)(hi:i+1<4)(c1:w.cell? ⟨c,d+i,none⟩=some v1)(c2:w.cell? ⟨c,d+(i+1),none⟩=some h)(E:c<w.heap.size)(O:ii w v1 a)(h2:ii w h g)(hs:vJ g)(F:0<a.length)(ao:nP g<=1000000000):Calls prog 151 #[.pointer (some ⟨c,d,none⟩),.int .i64 i] w λt e=>∃R:Nat,t=.returned (.int .i64 R)/\R<a.length/\Below w.heap.size w e:=by
 rcases O.shape with⟨_,h0⟩|⟨b1,bd,bc,rfl,_⟩
 ·subst h0;simp at F
 have bi:=O.small;have e1:(i:Int)<4:=by omega
 have e2:(0:Int)<=(i:Int):=by omega
 have V:=Z O;have X:=Z h2;have HS:=Z hs;have U:=Z c2;clear O h2 hs c2;go_enter func151,ntmps151
 go_wp2;go_loopw [5,6,19] (λb le n wr=>∃R bb k:Nat,R<a.length/\bb<=9223372036854775807/\k<=a.length/\b=.int .i64 R/\le=.int .i64 bb/\n=.int .i64 k/\Below w.heap.size w wr) (λ_ _ n _=>a.length-(intOf n).toNat)
 case atStart=>exact⟨0,9223372036854775807,0,F,ai _,aU _,rfl,rfl,rfl,Below.refl _ _⟩
 case round=>
  obtain⟨R,bb,k,hj,hm,hk,rfl,rfl,rfl,m⟩:=hrel;have HB:=Z m;by_cases b:k<a.length
  ·have f:=(Y V).below m;have A:=(Y X).below m;have hp:=f.cell b;have c2:wr.cell? ⟨c,d+(i+1),none⟩=some h:=(m.cell (p:=⟨c,d+(i+1),none⟩) E).trans (Y U);have o:∀W,W.heap=wr.heap->Calls prog 153 #[a[k].ptr] W λt e=>t=.returned (.string (fh a[k].ks))/\e=W:=λW l=>((f.each _ (au b)).of_heap l).first;have q:∀W,W.heap=wr.heap->Calls prog 154 #[a[k].ptr] W λt e=>t=.returned (.string (fm a[k].ks))/\∃bf,e=W.drewN bf:=λW l=>((f.each _ (au b)).of_heap l).last;have hcut:∀W,W.heap=wr.heap->W.os=wr.os->W.tape=wr.tape->W.output=wr.output->Calls prog 152 #[h,.string (fh a[k].ks),.string (fm a[k].ks)] W λt e=>∃P s Q,t=.returned (.tuple #[P,s,Q])/\(∃K,ii e s K/\nP K<=1000000000)/\Below w.heap.size w e/\e.cell? ⟨c,d+(i+1),none⟩=some h:=by
    intro W l ac ad al;refine(zn W h g (fh a[k].ks) (fm a[k].ks) (A.of_heap l) (Y HS)).mono ?_;rintro t e⟨bk,bl,P,s,Q,rfl,_,_,ax,_,_,j⟩;have n:Below w.heap.size w W:=m.of_heap (by rw[l,ac,ad,al]);refine⟨P,s,Q,rfl,⟨_,ax,aB (Mz ((lW _ _).trans (jk _ _))) ao⟩,n.trans (j.mono n.size),?_⟩;exact(j.cell (p:=⟨c,d+(i+1),none⟩) (ah E n.size)).trans ((bI (w:=wr) (by rw[l])).trans c2)
   clear m f A;unfold ar.ptr at hp o q;generalize fh a[k].ks=s1 at*;generalize fm a[k].ks=s2 at*;generalize a[k].tb=tb at*;obtain⟨p,G⟩:∃p,i+1=p:=⟨_,rfl⟩;rw[G]at c2 hcut hi;have e3:(i:Int)+1=(p:Int):=by omega
   have e4:(p:Int)<4:=by omega
   have e5:(0:Int)<=(p:Int):=by omega
   have e6:IntKind.i64.wrap (p:Int)=(p:Int):=by rw[bu];omega
   have e7:p<4:=by omega
   clear G;go_wp2_with fail
   rename_i QQ KK bg;go_region_held3(λX=>X.cell? ⟨c,d+p,none⟩=some h) (first|assumption|go_keep) (first
    |(go_at_call 153;refine(o wr.drew rfl).mono ?_;rintro t L⟨rfl,ba⟩;subst L;have r:wr.drew.cell? ⟨c,d+p,none⟩=some h:=c2)
    |(go_at_call 154;refine(q wr.drew rfl).mono ?_;rintro t L⟨rfl,bf,ba⟩;subst L;have r:(wr.drew.drewN bf).cell? ⟨c,d+p,none⟩=some h:=c2)
    |(go_at_call 152;refine(hcut (wr.drewN (1+bf)) rfl rfl rfl rfl).mono ?_;rintro t L⟨P,s,Q,rfl,H,C,r⟩;have y:=Z H;have x:=Z C;clear H C))
   obtain⟨K,z,an⟩:=Y y;have D:=Gd L s K z an;clear z y hcut o q r;generalize nP K=N at*;go_wp2_with fail
   refine D.mono ?_;rintro t w2⟨rfl,B⟩;have u:=Z ((Y x).trans (B.mono (Y x).size));clear B D;by_cases bh:N<bb
   ·have e8:(N:Int)<(bb:Int):=by omega
    go_wp2;go_roundw;case rel=>exact⟨k,N,k+1,b,by omega,b,rfl,rfl,by go_num,Y u⟩
    case measure=>simp[intOf];omega
   ·have e8:¬(N:Int)<(bb:Int):=by omega
    go_wp2;go_roundw;case rel=>exact⟨R,bb,k+1,hj,hm,b,rfl,rfl,by go_num,Y u⟩
    case measure=>simp[intOf];omega
  ·have f:k=a.length:=by omega
   subst f;clear m;go_wp2;go_ret;exact⟨R,rfl,hj,Y HB⟩
section
open Go.Shelf
attribute [local go_sem] Oper.semAt_some
structure RB(w0:J)(vs:List M)(B:Nat->Prop)(W:J):Prop where
 row:∃v,dY W w0.heap.size v 172/\W.ownsRow (w0.heap.size+1) 175 1 v vs.length vs/\(∀k,B k↔k=w0.heap.size\/v.ownBlock=some k)
 ay:I (λ_=>False) w0 W
def RB.lt{a W:J}{h:List M}{B:Nat->Prop}(o:RB a h B W):∀k,B k->a.heap.size<=k/\k<W.heap.size:=by
 intro k g;obtain⟨v,b,d,e⟩:=o.row;rcases(e k).1 g with c|c
 ·subst c;exact⟨ai _,ak b⟩
 ·have:=d.lt k c;exact⟨by omega,this.2⟩
def RB.stays{e W f:J}{h:List M}{B T:Nat->Prop}(p:RB e h B W)(d:I T W f)(b:∀k,T k->¬B k/\e.heap.size<=k):RB e h B f:=by
 obtain⟨v,g,o,a⟩:=p.row;exact⟨⟨v,(d.block _ (ak g) (λj=>(b _ j).1 ((a _).2 (.inl rfl)))).trans g,d.own o (λk c j=>(b k j).1 ((a k).2 (.inr c))),a⟩,p.ay.trans d (λk c=>.inr (b k c).2)⟩
def RB.more{a W c:J}{e:List M}{B:Nat->Prop}{v d x:M}{D:Obj}(C:RB a e B W)(t:dY W a.heap.size v 172)(o:∀k,B k↔k=a.heap.size\/v.ownBlock=some k)(A:W.ownsRow (a.heap.size+1) 175 1 v e.length e)(u:du (W.alloc D) c v d)(f:c.ownsRow (a.heap.size+1) 175 1 d (e.length+1) (e++[x])):∃r,RB a (e++[x]) r (c.setCell ⟨a.heap.size,0,none⟩ d)/\I B W (c.setCell ⟨a.heap.size,0,none⟩ d)/\(∀k,r k->B k\/W.heap.size<=k):=by
 have q:∀k,v.ownBlock=some k->a.heap.size+1<=k/\k<W.heap.size:=λk b=>A.lt k b;have h:∀k,d.ownBlock=some k->a.heap.size+1<=k:=λk b=>(f.lt k b).1;have s:I (λk=>v.ownBlock=some k) W c:=((I.refl (λk=>v.ownBlock=some k) W).alloc D).trans (I.bz (S:=λk=>v.ownBlock=some k) u.grown (λk b=>.inl b)) (λk b=>.inl b);have p:dY c a.heap.size v 172:=(s.block _ (ak t) (λj=>by have:=(q _ j).1;omega)).trans t;have g:I B W (c.setCell ⟨a.heap.size,0,none⟩ d):=(s.mono (T:=B) (λk b=>.inl ((o k).2 (.inr b)))).setCell _ _ _ (.inl ((o _).2 (.inl rfl)));refine⟨λk=>k=a.heap.size\/d.ownBlock=some k,⟨⟨d,p.set _,?_,λk=>nZ⟩,?_⟩,g,?_⟩
 ·rw[show(e++[x]).length=e.length+1 by simp];exact f.kept (co c _ _ _) (by right;intro j;have:=h _ j;omega)
 ·exact C.ay.trans g (λk b=>.inr (C.lt k b).1)
 ·rintro k(j|j)
  ·exact .inl ((o k).2 (.inl j))
  ·rcases u.sr with y|⟨E,y,z⟩
   ·exact .inl ((o k).2 (.inr (y.symm.trans j)))
   ·rw[y]at j;cases j;simp at z;exact .inr (by omega)
def Fy(t:ar):M:=.iface 199 t.ptr
def Aa(p:M×List ar):M:=.iface 105 p.1
end
end Go.Proofs.YtophdnlmpfmeiaaGreatDoor
