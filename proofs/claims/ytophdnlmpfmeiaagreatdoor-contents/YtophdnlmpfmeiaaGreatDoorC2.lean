import Derived.Deep.RegionWith
import Derived.Laws.BitsLemmas
import Derived.Laws.IdiomStrings
import Derived.Lib.BufferRead
import Derived.Lib.EndianBits
import Derived.OpenShut
import Derived.Test.YtophdnlmpfmeiaaGreatDoorChecked
import Derived.Test.YtophdnlmpfmeiaaGreatDoorC0
namespace Go.Proofs.YtophdnlmpfmeiaaGreatDoor
open ChangeShapes WideShapes RowKit Proofs.Tryz
set_option maxHeartbeats 16000000
set_option linter.all false
set_option maxRecDepth 100000
def mr:(prog.info? 5).map (λi=>(i.zero,i.size,i.bytes))=some (some (.int .u8 0),1,1):=by kernel_rfl
def dq(w:J)(base:Nat)(v:M)(bs:List Int):Prop:=w.ownsRow base 5 1 v bs.length (bs.map (Value.int .u8))
def dq.of{w:J}{base:Nat}{v:M}{n:Nat}{b:List M}{a:List Int}(h:w.ownsRow base 5 1 v n b)(d:n=a.length)(e:b=a.map (Value.int .u8)):dq w base v a:=by
 subst d;subst e;exact h
def dq.nil(w:J)(base:Nat):dq w base (.slice none 0 0) []:=bC w base _ 1
def dq.alloc{w:J}{base:Nat}{v:M}{d:List Int}(h:dq w base v d)(o:Obj):dq (w.alloc o) base v d:=aM h o
def le:Nat->Int->List Int
 |0,_=>[]
 |k+1,n=>n%256::le k (n/256)
def bw(k:Nat):∀n,(le k n).length=k:=by
 induction k with
 |zero=>intro n;rfl
 |succ k a=>intro n;simp[le,a]
def iw(s:aa):List Int:=s.data.toList.map λb=>(b.toNat:Int)
def strCells_eq(s:aa):Lib.strCells s=(iw s).map (Value.int .u8):=by simp[Lib.strCells,iw]
def fa(s:aa):(iw s).length=s.size:=by simp[iw]
def pO(base:Nat)(v:M)(e:List Int)(n:Int)(w:J)(c:dq w base v e)(p:base<=w.heap.size)(q:e.length<=70368744177664):Calls prog 169 #[v,.int .u8 n] w λo j=>∃d,o=.returned d/\dq j base d (e++[n])/\du w j v d:=by
 obtain⟨m,k,f,g,h⟩:=bK mr;go_enter func169,ntmps169
 go_wp2_with(first
  |(at_builtin;refine aX _ rfl _ _ 119 rfl base 5 m (.int .u8 0) 1 1 underlying119 k f g h rfl (by decide) _ _ _ rfl (c.alloc _) ⟨w.heap.size,0,none⟩ 1 1 [.int .u8 n] rfl rfl (nY _ _ _) ?c2 ?c3 ?c4 ?c5 ?_))
 case c2=>intro u i;simp at i;subst i;rfl
 case c3=>omega
 case c4=>omega
 case c5=>simp;omega
 intro d r b a;go_wp2;go_ret;exact⟨d,rfl,dq.of b (by simp) (by simp),a.alloc _⟩
def JV(w:J)(a:List M)(t:TypeId):∀j u,a[j]?=some u->(w.alloc (.cells a.toArray t)).cell? ((⟨w.heap.size,0,none⟩:Addr).add j)=some u:=by
 intro j u b;rw[ct];unfold World.cell?;rw[ew];simp[b]
def gQ(base:Nat)(v:M)(e:List Int)(n:Int)(w:J)(c:dq w base v e)(r:base<=w.heap.size)(s:e.length<=70368744177664)(p:0<=n)(q:n<4294967296):Calls prog 171 #[v,.int .u32 n] w λk j=>∃d,k=.returned d/\dq j base d (e++le 4 n)/\du w j v d:=by
 obtain⟨o,m,f,g,h⟩:=bK mr;go_enter func171,ntmps171
 go_wp2_with(first
  |(at_builtin;refine aX _ rfl _ _ 119 rfl base 5 o (.int .u8 0) 1 1 underlying119 m f g h rfl (by decide) _ _ _ rfl (c.alloc _) ⟨w.heap.size,0,none⟩ 4 4 ((le 4 n).map (Value.int .u8)) rfl rfl ?c1 ?c2 ?c3 ?c4 ?c5 ?_))
 case c1=>
  have k:(#[Value.int IntKind.u8 (n%256),Value.int IntKind.u8 (n/256%256),Value.int IntKind.u8 (n/65536%256),Value.int IntKind.u8 (n/16777216)]:Array M)=((le 4 n).map (Value.int .u8)).toArray:=by
   simp[le];omega
  rw[k];exact JV _ _ _
 case c2=>intro u i;simp[le]at i;rcases i with rfl|rfl|rfl|rfl<;>rfl
 case c3=>omega
 case c4=>omega
 case c5=>simp;omega
 intro d t b a;go_wp2;go_ret;exact⟨d,rfl,dq.of b (by simp[le]) (by simp),a.alloc _⟩
def lF(base:Nat)(v:M)(f:List Int)(s:aa)(w:J)(c:dq w base v f)(l:base<=w.heap.size)(o:f.length<=70368744177664)(r:s.size<=255):Calls prog 207 #[v,.string s] w λq k=>∃e,q=.returned e/\dq k base e (f++(s.size:Int)::iw s)/\du w k v e:=by
 obtain⟨p,m,h,i,j⟩:=bK mr;go_enter func207,ntmps207
 go_wp2_with fail
 refine(pO base v f s.size w c l o).mono ?_;rintro q u⟨t,rfl,g,d⟩;go_wp2_with(first
  |(at_builtin;refine oM _ rfl _ _ 119 9 rfl base 5 p underlying119 underlying9 m h i j _ _ _ rfl g s rfl ?c1 ?c2 ?_))
 case c1=>simp;omega
 case c2=>have:=d.grown.size;omega
 intro e x b a;go_wp2;go_ret;exact⟨e,rfl,dq.of b (by simp[fa];omega) (by simp[strCells_eq]),d.trans a⟩
def EY(a b:Int):0<=bits .xor .u32 a b:=(bounds_u32 (wf_bits .xor .u32 a b)).1
def EZ(a b:Int):bits .xor .u32 a b<4294967296:=by have:=(bounds_u32 (wf_bits .xor .u32 a b)).2;omega
def Pd(x:Int)(a:0<=x)(b:x<4294967296):bits .and .u32 x 15=x%16:=by
 have:=bits_mask .u32 32 (by decide) wraps_u32 4 (by decide) x a (by omega);simpa using this
def NJ(k:Nat):Int:=([0,498536548,997073096,651767980,1994146192,1802195444,1303535960,1342533948,3988292384,4027552580,3604390888,3412177804,2607071920,2262029012,2685067896,3183342108]:List Int).getD k 0
def Steps(w:J):Prop:=∀k,k<16->w.cell? ⟨1,k,none⟩=some (.int .u32 (NJ k))
def Steps.below{B:Nat}{w a:J}(h:Steps w)(d:Below B w a)(b:1<B):Steps a:=λk e=>(d.cell (by exact b)).trans (h k e)
def Hr(c:Int):Int:=bits .xor .u32 (c/16) (NJ (c%16).toNat)
def vF(z x:Int):Int:=Hr (Hr (bits .xor .u32 z (x%4294967296)))
def tj(a:List Int):Int:=a.foldl vF 4294967295
def jv(a:List Int):Int:=bits .xor .u32 IntKind.u32.max (tj a)
def GC(z x:Int):0<=vF z x:=EY _ _
def GD(z x:Int):vF z x<4294967296:=EZ _ _
def Ez(a:List Int):0<=tj a/\tj a<4294967296:=by
 unfold tj;rcases List.eq_nil_or_concat a with rfl|⟨l,x,rfl⟩
 ·simp
 ·rw[List.concat_eq_append,fR];exact⟨GC _ _,GD _ _⟩
def uw(a:List Int):0<=jv a:=EY _ _
def wv(a:List Int):jv a<4294967296:=EZ _ _
def GB(a:List Int)(k:Nat)(h:k<a.length):tj (a.take (k+1))=vF (tj (a.take k)) a[k]:=by
 unfold tj;rw[aq h,fR];rfl
def Nb(n d:Nat)(a:List Int)(f:Nat)(w:J)(g:Steps w)(j:∀k,k<a.length->w.cell? ⟨n,d+k,none⟩=some (.int .u8 (a[k]?.getD 0)))(e:a.length<=140737488351232):Calls prog 173 #[.slice (some ⟨n,d,none⟩) a.length f] w λo m=>o=.returned (.int .u32 (jv a))/\m=w:=by
 have r:=EY;have s:=EZ;have h:=Pd;have i:∀x:Int,w.cell? ⟨1,(x%16).toNat,none⟩=some (.int .u32 (NJ (x%16).toNat)):=λx=>g _ (by omega);clear g;go_enter func173,ntmps173
 go_wp2;go_loop [3,8,5] (λc i x=>∃(k:Nat),k<=a.length/\i=.int .i64 k/\c=.int .u32 (tj (a.take k))) (λ_ i _=>a.length-(intOf i).toNat)
 case atStart=>exact⟨0,aU _,rfl,rfl⟩
 case round=>
  obtain⟨k,p,rfl,rfl⟩:=hrel;have q:=Ez (a.take k);by_cases c:k<a.length
  ·have l:=j k c;have b:Hid (tj (a.take (k+1))=vF (tj (a.take k)) a[k]):=GB a k c;generalize tj (a.take k)=z at*;go_wp2;go_round
   case rel=>exact⟨k+1,by omega,by go_num,by rw[b.out];rfl⟩
   case measure=>simp[intOf];omega
  ·go_wp2;go_ret;have b:a.take k=a:=bP (by omega);rw[b];exact⟨rfl,rfl⟩
def Bytes(w:J)(v:M)(bs:List Int):Prop:=(v=.slice none 0 0/\bs=[])\/∃d b a,v=.slice (some ⟨d,b,none⟩) bs.length a/\bs.length<=a/\∀k,k<bs.length->w.cell? ⟨d,b+k,none⟩=some (.int .u8 (bs[k]?.getD 0))
def dq.bytes{w:J}{base:Nat}{v:M}{bs:List Int}(h:dq w base v bs):Bytes w v bs:=by
 unfold dq at h;rcases h.2 with⟨rfl,e⟩|⟨g,a,d,rfl,_,_,b,_⟩
 ·exact .inl ⟨rfl,aG e⟩
 ·refine .inr ⟨g,0,a,rfl,b,λk j=>?_⟩;have:=h.cells (g:=g) rfl k (.int .u8 (bs[k]?.getD 0)) (by simp[j]);simpa[ct]using this
def Bytes.below{B:Nat}{w e:J}{v:M}{bs:List Int}(q:Bytes w v bs)(h:Below B w e)(g:∀k,v.ownBlock=some k->k<B):Bytes e v bs:=by
 rcases q with⟨rfl,rfl⟩|⟨r,d,a,rfl,b,o⟩
 ·exact .inl ⟨rfl,rfl⟩
 ·exact .inr ⟨r,d,a,rfl,b,λk q=>(h.cell (by exact g r rfl)).trans (o k q)⟩
def sum_nil(w:J):Calls prog 173 #[.slice none 0 0] w λe a=>e=.returned (.int .u32 (jv []))/\a=w:=by
 go_enter func173,ntmps173
 go_wp2;go_loop [3,8,5] (λc i x=>i=.int .i64 0/\c=.int .u32 4294967295) (λ_ _ _=>0)
 case atStart=>exact⟨rfl,rfl⟩
 case round=>
  obtain⟨rfl,rfl⟩:=hrel;go_wp2;go_ret;exact⟨rfl,rfl⟩
def lB(v:M)(b:List Int)(w:J)(f:Steps w)(g:Bytes w v b)(a:b.length<=140737488351232):Calls prog 173 #[v] w λo j=>o=.returned (.int .u32 (jv b))/\j=w:=by
 rcases g with⟨rfl,rfl⟩|⟨m,e,d,rfl,_,h⟩
 ·exact sum_nil w
 ·exact Nb m e b d w f h a
def Ql(n:Int):le 4 (n%4294967296)++le 4 (n/4294967296)=le 8 n:=by
 simp[le];omega
def lG(base:Nat)(v:M)(d:List Int)(n:Int)(w:J)(b:dq w base v d)(k:base<=w.heap.size)(r:d.length<=35184372088832)(p:0<=n)(q:n<18446744073709551616):Calls prog 168 #[v,.int .u64 n] w λj h=>∃g,j=.returned g/\dq h base g (d++le 8 n)/\du w h v g:=by
 have i:Hid (le 4 (n%4294967296)++le 4 (n/4294967296)=le 8 n):=Ql n;go_enter func168,ntmps168
 go_wp2_with fail
 refine(gQ base v d (n%4294967296) _ b k (by omega) (by omega) (by omega)).mono ?_;rintro j s⟨m,rfl,e,c⟩;go_wp2_with fail
 refine(gQ base m _ (n/4294967296) _ e (by have:=c.grown.size;omega) (by simp[bw];omega) (by omega) (by omega)).mono ?_;rintro j t⟨o,rfl,a,f⟩;go_wp2;go_ret;refine⟨o,rfl,?_,c.trans f⟩;rw[aV,i.out]at a;exact a
def yG(base:Nat)(v:M)(a:List Int)(w:J)(j:Steps w)(b:dq w base v a)(k:base<=w.heap.size)(o:a.length<=35184372088832):Calls prog 172 #[v] w λh f=>∃e,h=.returned e/\dq f base e (a++le 4 (jv a))/\du w f v e:=by
 have g:=uw a;have c1:=wv a;go_enter func172,ntmps172
 go_wp2_with fail
 refine(lB v a w j b.bytes (by omega)).mono ?_;rintro h p⟨rfl,rfl⟩;go_wp2_with fail
 refine(gQ base v a (jv a) _ b k (by omega) g c1).mono ?_;rintro h q⟨m,rfl,c,d⟩;go_wp2;go_ret;exact⟨m,rfl,c,d⟩
def yF(n:Int)(w:J)(b:0<=n)(c:n<=140737488351232):Calls prog 195 #[.int .i64 n] w λe a=>e=.returned (.int .i64 (n+4))/\a=w:=by
 go_enter func195,ntmps195
 go_wp2;go_ret;exact⟨rfl,rfl⟩
def Rd(w:J)(d:Nat)(b:List Int)(short:Bool):Prop:=∃v,w.heap[d]?=some (.cells #[v,.bool short] 341 (0,0))/\Bytes w v b/\∀k,v.ownBlock=some k->k<d
def Bytes.grown{w k:J}{v:M}{bs:List Int}{b:Option Nat}(h:Bytes w v bs)(q:w.grownBy k b)(f:v.ownBlock≠b\/v.ownBlock=none):Bytes k v bs:=by
 rcases h with⟨rfl,rfl⟩|⟨s,g,d,rfl,e,o⟩
 ·exact .inl ⟨rfl,rfl⟩
 ·refine .inr ⟨s,g,d,rfl,e,λt r=>q.cell (o t r) ?_⟩;rcases f with h|h
  ·exact h
  ·simp[Value.ownBlock]at h
def Bytes.alloc{w:J}{v:M}{o:List Int}(A:Bytes w v o)(z:Obj):Bytes (w.alloc z) v o:=by
 rcases A with⟨rfl,rfl⟩|⟨b,h,d,rfl,e,s⟩
 ·exact .inl ⟨rfl,rfl⟩
 ·refine .inr ⟨b,h,d,rfl,e,λk y=>?_⟩;have q:=s k y;have g:b<w.heap.size:=by
   by_cases r:b<w.heap.size
   ·exact r
   ·have:w.heap[b]?=none:=dy (by omega);simp[World.cell?,this]at q
  rw[<-q];exact bI (w:=w) (Below.heap_alloc w z b g)
def Bytes.drew{w:J}{v:M}{b:List Int}(h:Bytes w v b):Bytes w.drew v b:=h
def Bytes.take{w:J}{o b a n:Nat}{bs:List Int}(h:Bytes w (.slice (some ⟨o,b,none⟩) bs.length a) bs)(t:n<=bs.length):Bytes w (.slice (some ⟨o,b,none⟩) n a) (bs.take n):=by
 rcases h with⟨h,_⟩|⟨b',g,d,h,r,q⟩
 ·cases h
 ·cases h;have e:(bs.take n).length=n:=by simp;omega
  refine .inr ⟨o,b,a,by rw[e],by omega,λk s=>?_⟩;rw[q k (by omega),kT (by omega)]
def Bytes.uv{w:J}{e b a n:Nat}{bs:List Int}(h:Bytes w (.slice (some ⟨e,b,none⟩) bs.length a) bs)(k:n<=bs.length):Bytes w (.slice (some ⟨e,b+n,none⟩) (bs.length-n) (a-n)) (bs.drop n):=by
 rcases h with⟨h,_⟩|⟨j,d,c,h,i,f⟩
 ·cases h
 ·cases h;refine .inr ⟨e,b+n,a-n,by simp,by simp;omega,λl g=>?_⟩;simp at g;rw[aP,f (n+l) (by omega),jG]
def Bytes.lt{w:J}{v:M}{bs:List Int}(z:Bytes w v bs)(a:bs≠[]):∀k,v.ownBlock=some k->k<w.heap.size:=by
 rcases z with⟨rfl,rfl⟩|⟨y,r,d,rfl,o,h⟩
 ·exact absurd rfl a
 ·intro k b;simp[Value.ownBlock]at b;subst b;have e:=h 0 (by cases bs<;>simp_all);by_cases g:y<w.heap.size
  ·exact g
  ·have:w.heap[y]?=none:=dy (by omega);simp[World.cell?,this]at e
def vY{a:Addr}{n c k:Nat}(h:(Value.slice (some a) n c).ownBlock=some k):a.block=k:=by simpa[Value.ownBlock]using h
def iN(v:M)(b:List Int)(w:J)(e:Bytes w v b)(d:∀k,v.ownBlock=some k->k<w.heap.size):Calls prog 177 #[v] w λo a=>o=.returned (.pointer (some ⟨w.heap.size,0,none⟩))/\Rd a w.heap.size b false/\a=w.alloc (.cells #[v,.bool false] 341):=by
 have fin:∀a,a=w.alloc (.cells #[v,.bool false] 341)->Rd a w.heap.size b false:=by
  rintro a rfl;exact⟨v,ew _ _,e.alloc _,d⟩
 have F:Hid (∀a,a=w.alloc (.cells #[v,.bool false] 341)->Rd a w.heap.size b false):=fin;clear fin;rcases e with⟨rfl,rfl⟩|⟨q,h,f,rfl,g,p⟩
 ·clear d;go_enter func177,ntmps177
  go_wp2;go_ret;exact⟨rfl,F.out _ rfl,rfl⟩
 ·clear d;go_enter func177,ntmps177
  go_wp2;go_ret;exact⟨rfl,F.out _ rfl,rfl⟩
def gP(a:List Int)(short:Bool)(n:Nat):List Int×Bool×List Int:=if short=true\/a.length<n then(a,true,[])else(a.drop n,false,a.take n)
def Rd.short{w:J}{d:Nat}{b:List Int}{short:Bool}{v:M}(f:w.heap[d]?=some (.cells #[v,.bool short] 341 (0,0)))(e:Bytes w v b)(c:∀k,v.ownBlock=some k->k<d):Rd (w.setCell ⟨d,1,none⟩ (.bool true)) d b true:=⟨v,by rw[aL f];rfl,e.grown (co w d 1 _) (.inl (λg=>iM _ (c _ g))),c⟩
def Rd.Lp{w:J}{c:Nat}{a:List Int}{short:Bool}{v u:M}(e:w.heap[c]?=some (.cells #[v,.bool short] 341 (0,0)))(d:Bytes w u a)(b:∀k,u.ownBlock=some k->k<c):Rd (w.setCell ⟨c,0,none⟩ u) c a short:=⟨u,by rw[aL e];rfl,d.grown (co w c 0 _) (.inl (λf=>iM _ (b _ f))),b⟩
def CW(b:Nat)(a:List Int)(short:Bool)(n:Nat)(w:J)(O:Rd w b a short)(Q:a.length<=140737488351232)(P:n<=1000000):Calls prog 241 #[.pointer (some ⟨b,0,none⟩),.int .i64 n] w λk A=>∃z,k=.returned z/\Rd A b (gP a short n).1 (gP a short n).2.1/\Bytes A z (gP a short n).2.2/\z.ownBlock≠some b/\w.grownBy A (some b):=by
 obtain⟨D,i,t,m⟩:=O;have r:Hid (Bytes w D a):=t;have G:w.cell? ⟨b,0,none⟩=some D:=by rw[aj i];rfl
 have H:w.cell? ⟨b,1,none⟩=some (.bool short):=by rw[aj i];rfl
 have K:w.frozen? ⟨b,0,none⟩=false:=cG i;have L:w.frozen? ⟨b,1,none⟩=false:=cG i;have s:Hid (w.heap[b]?=some (.cells #[D,.bool short] 341 (0,0))):=i;have g:Hid (∀N,D.ownBlock=some N->N<b):=m;clear i m;by_cases d:short=true\/a.length<n
 ·have e:Hid (gP a short n=(a,true,[])):=by unfold Hid gP;rw[dr d]
  have fin:Rd (w.setCell ⟨b,1,none⟩ (.bool true)) b a true/\w.grownBy (w.setCell ⟨b,1,none⟩ (.bool true)) (some b):=⟨Rd.short s.out r.out g.out,co _ _ _ _⟩;have F:Hid (Rd (w.setCell ⟨b,1,none⟩ (.bool true)) b a true/\w.grownBy (w.setCell ⟨b,1,none⟩ (.bool true)) (some b)):=fin;clear fin;have q:Bytes (w.setCell ⟨b,1,none⟩ (.bool true)) (.slice none 0 0) []:=.inl ⟨rfl,rfl⟩;have h:Hid (Bytes (w.setCell ⟨b,1,none⟩ (.bool true)) (.slice none 0 0) []):=q;clear q;cases short with
  |true=>
   clear d t;go_enter func241,ntmps241
   go_wp2;go_ret;exact⟨_,rfl,by rw[e.out];exact F.out.1,by rw[e.out];exact h.out,by simp[Value.ownBlock],F.out.2⟩
  |false=>
   have l:a.length<n:=by simpa using d
   clear d;rcases t with⟨rfl,rfl⟩|⟨B,f,c,rfl,y,E⟩;all_goals
    go_enter func241,ntmps241
    go_wp2;go_ret;exact⟨_,rfl,by rw[e.out];exact F.out.1,by rw[e.out];exact h.out,by simp[Value.ownBlock],F.out.2⟩
 ·have e:Hid (gP a short n=(a.drop n,false,a.take n)):=by unfold Hid gP;rw[dd d]
  obtain⟨C,l⟩:=not_or.1 d;obtain rfl:short=false:=by simpa using C
  clear d C;rcases t with⟨rfl,rfl⟩|⟨B,f,c,rfl,y,E⟩
  ·obtain rfl:n=0:=by simpa using l
   have q:Bytes w (.slice none 0 0) []:=.inl ⟨rfl,rfl⟩;have h:=Rd.Lp s.out q g.out;have j:=Z h;clear h q;go_enter func241,ntmps241
   go_wp2;go_ret;exact⟨_,rfl,by rw[e.out];exact Y j,by rw[e.out];exact .inl ⟨rfl,rfl⟩,λk=>iM _ (g.out _ k),co _ _ _ _⟩
  ·by_cases x:c=n
   ·subst x;have u:a.drop c=[]:=by simp;omega
    have F:a.length=c:=by omega
    have o:Bytes w (.slice (some ⟨B,f,none⟩) 0 0) (a.drop c):=.inr ⟨B,f,0,by rw[u];rfl,by rw[u];simp,λN b=>by rw[u]at b;simp at b⟩;have p:=(Bytes.take r.out (n:=c) (by omega)).grown (co w b 0 (.slice (some ⟨B,f,none⟩) 0 0)) (.inl (λk=>iM _ (g.out _ k)));have h:=Rd.Lp s.out o g.out;have v:=Z p;have j:=Z h;clear o p h u;go_enter func241,ntmps241
    go_wp2;go_ret;exact⟨_,rfl,by rw[e.out];exact Y j,by rw[e.out];exact Y v,λk=>iM _ (g.out _ k),co _ _ _ _⟩
   ·have o:=Bytes.uv r.out (n:=n) (by omega);have p:=(Bytes.take r.out (n:=n) (by omega)).grown (co w b 0 (.slice (some ⟨B,f+n,none⟩) (a.length-n) (c-n))) (.inl (λk=>iM _ (g.out _ k)));have h:=Rd.Lp s.out o g.out;have v:=Z p;have j:=Z h;clear o p h;go_enter func241,ntmps241
    go_wp2;go_ret;exact⟨_,rfl,by rw[e.out];exact Y j,by rw[e.out];exact Y v,λk=>iM _ (g.out _ k),co _ _ _ _⟩
def iq(a:List Int):Prop:=∀x∈a,0<=x/\x<256
def iq.take{bs:List Int}(h:iq bs)(n:Nat):iq (bs.take n):=λx a=>h x (dC a)
def iq.drop{bs:List Int}(h:iq bs)(n:Nat):iq (bs.drop n):=λx a=>h x (cg a)
def iq.append{b d:List Int}(h:iq b)(k:iq d):iq (b++d):=λx a=>(aw.1 a).elim (h x) (k x)
def iq.uY{a:List Int}{short:Bool}{n:Nat}(h:iq a):iq (gP a short n).1/\iq (gP a short n).2.2:=by
 unfold gP;split
 ·exact⟨h,λx b=>by cases b⟩
 ·exact⟨h.drop n,h.take n⟩
def rA(a:List Int)(short:Bool)(n:Nat):(gP a short n).1.length<=a.length/\(gP a short n).2.2.length<=n:=by
 unfold gP;split
 ·exact⟨ai _,aU _⟩
 ·simp;omega
def iq.le(k:Nat):∀n,iq (le k n):=by
 induction k with
 |zero=>intro n x d;cases d
 |succ k e=>
  intro n x d;rcases aD.1 d with rfl|d
  ·omega
  ·exact e _ x d
def iq.text(s:aa):iq (iw s):=by
 intro x a;obtain⟨b,_,rfl⟩:=aZ.1 a;have:=b.toNat_lt;omega
def jb:List Int->Int
 |[]=>0
 |x::r=>x+256*jb r
def pQ:∀(l:List Int),iq l->0<=jb l/\jb l<256^l.length
 |[],_=>by simp[jb]
 |x::r,h=>by
  have a:=h x (.head _);have b:=pQ r (λy a=>h y (.tail _ a));simp only[jb,aE,uE];omega
def zk:∀(l:List Int)(x:Int),jb (l++[x])=jb l+x*256^l.length
 |[],x=>by simp[jb]
 |y::r,x=>by
  simp only[dI,jb,aE,uE,zk r x];have e:256*(x*256^r.length)=x*(256^r.length*256):=by rw[Int.mul_left_comm,Int.mul_comm 256]
  rw[Int.mul_add,e];omega
def vn:∀(k:Nat)(n:Int),0<=n->jb (le k n)=n%256^k
 |0,n,_=>by simp[jb,le]
 |k+1,n,h=>by
  simp only[le,jb,vn k (n/256) (by omega),uE];obtain⟨m,rfl⟩:=qB h;have:=Nat.mod_mul (x:=m) (a:=256) (b:=256^k);rw[Int.mul_comm (256^k) 256];exact_mod_cast this.symm
def Nl(a:List Int)(i:iq a)(l:a.length<=8)(k:Nat)(e:k<a.length):jb (a.take (k+1))=bits .or .u64 (jb (a.take k)) (IntKind.u64.wrap (a[k]*2^(8*k))):=by
 have d:=pQ (a.take k) (i.take k);have f:(a.take k).length=k:=by simp;omega
 rw[aq e,zk,f];rw[f]at d;have o:=i a[k] (au e);have j:(256:Int)^k=2^(8*k):=by rw[Int.pow_mul];rfl
 rw[j]at d|-;have m:(0:Int)<2^(8*k):=Int.pow_pos (by decide);have g:(2:Int)^(8*k)*256<=2^64:=by
  have:(2:Int)^(8*k)*256=2^(8*k+8):=by rw[Int.pow_add];rfl
  rw[this];exact_mod_cast Nat.pow_le_pow_right (by decide) (by omega)
 have h:a[k]*2^(8*k)<=255*2^(8*k):=Int.mul_le_mul_of_nonneg_right (by omega) (by omega);have b:0<=a[k]*2^(8*k):=Int.mul_nonneg (by omega) (by omega);have c:a[k]*2^(8*k)<2^64:=by omega
 rw[wraps_u64 _ b c,bits_join_low .u64 64 (by decide) wraps_u64 (8*k) _ _ d.1 d.2 (by omega) b (Int.mul_emod_left _ _) c]
def yX(g:Nat)(a:List Int)(short:Bool)(n:Nat)(B:J)(D:Rd B g a short)(e:iq a)(z:a.length<=140737488351232)(G:n<=8):Calls prog 214 #[.pointer (some ⟨g,0,none⟩),.int .i64 n] B λC t=>C=.returned (.int .u64 (jb (gP a short n).2.2))/\Rd t g (gP a short n).1 (gP a short n).2.1/\B.grownBy t (some g):=by
 have m:=Z e;clear e;go_enter func214,ntmps214
 go_wp2_with fail
 refine(CW g a short n _ D z (by omega)).mono ?_;rintro C L⟨K,rfl,f,h,i,r⟩;have F:=(rA a short n).2;have p:=Z ((Y m).uY (short:=short) (n:=n)).2;have o:=Z f;have l:=Z r;clear f r i D m;generalize q:(gP a short n).2.2=b at*;have j:=Z q;clear q;rcases h with⟨rfl,rfl⟩|⟨N,A,v,rfl,y,x⟩
 ·go_wp2;go_loop [5,12,6,7] (λu s _ _=>s=.int .i64 0/\u=.int .u64 0) (λ_ _ _ _=>0)
  case atStart=>exact⟨rfl,rfl⟩
  case round=>
   obtain⟨rfl,rfl⟩:=hrel;go_wp2;go_ret;exact⟨by rw[Y j];rfl,Y o,Y l⟩
 ·go_wp2;go_loop [5,12,6,7] (λu s _ _=>∃(k:Nat),k<=b.length/\s=.int .i64 k/\u=.int .u64 (jb (b.take k))) (λ_ s _ _=>b.length-(intOf s).toNat)
  case atStart=>exact⟨0,aU _,rfl,rfl⟩
  case round=>
   obtain⟨k,E,rfl,rfl⟩:=hrel;by_cases d:k<b.length
   ·have w:=x k d;have H:=(Y p) b[k] (au d);have c:=Z (Nl b (Y p) (by omega) k d);generalize jb (b.take k)=O at*;go_wp2;go_round
    case rel=>exact⟨k+1,by omega,by go_num,by rw[Y c]⟩
    case measure=>simp[intOf];omega
   ·go_wp2;go_ret;have c:b.take k=b:=bP (by omega);rw[c];exact⟨by rw[Y j];rfl,Y o,Y l⟩
def Lz{l:List Int}(h:iq l){n:Nat}(a:l.length<=n):jb l<256^n:=by
 have b:=(pQ l h).2;have c:(256:Int)^l.length<=256^n:=by exact_mod_cast Nat.pow_le_pow_right (by decide) a
 omega
def num(a:List Int)(short:Bool)(n:Nat):Int:=jb (gP a short n).2.2
def oz{a:List Int}{short:Bool}{n:Nat}(h:iq a):0<=num a short n/\num a short n<256^n:=⟨(pQ _ h.uY.2).1,Lz h.uY.2 (rA a short n).2⟩
def DQ(d:Nat)(a:List Int)(short:Bool)(w:J)(k:Rd w d a short)(b:iq a)(i:a.length<=140737488351232):Calls prog 178 #[.pointer (some ⟨d,0,none⟩)] w λj e=>j=.returned (.int .u64 (num a short 8))/\Rd e d (gP a short 8).1 (gP a short 8).2.1/\w.grownBy e (some d):=by
 have H:=Z k;have f:=Z b;clear k b;go_enter func178,ntmps178
 go_wp2_with fail
 refine(yX d a short 8 _ (Y H) (Y f) i (by omega)).mono ?_;rintro j l⟨rfl,g,h⟩;go_wp2;go_ret;exact⟨rfl,g,h⟩
def yW(b:Nat)(a:List Int)(short:Bool)(n:Nat)(w:J)(h:Rd w b a short)(c:iq a)(f:a.length<=140737488351232)(e:n<=8):Calls prog 214 #[.pointer (some ⟨b,0,none⟩),.int .i64 n] w λg d=>g=.returned (.int .u64 (num a short n))/\Rd d b (gP a short n).1 (gP a short n).2.1/\w.grownBy d (some b):=yX b a short n w h c f e
def GX{k:IntKind}{a b:Int}(h:a=b):Ending.returned (.int k a)=.returned (.int k b):=by rw[h]
def uJ(c:Nat)(a:List Int)(short:Bool)(w:J)(o:Rd w c a short)(b:iq a)(l:a.length<=140737488351232):Calls prog 179 #[.pointer (some ⟨c,0,none⟩)] w λm h=>m=.returned (.int .u32 (num a short 4))/\Rd h c (gP a short 4).1 (gP a short 4).2.1/\w.grownBy h (some c):=by
 have j:0<=num a short 4:=(oz b).1;have k:num a short 4<4294967296:=(oz b).2;have H:=Z o;have i:=Z b;clear o b;go_enter func179,ntmps179
 go_wp2_with fail
 refine(yW c a short 4 _ (Y H) (Y i) l (by omega)).mono ?_;rintro m p⟨rfl,f,g⟩;have d:=Z f;have e:=Z g;clear f g;go_wp2;go_ret;exact⟨GX (by omega),Y d,Y e⟩
def zK(c:Nat)(a:List Int)(short:Bool)(w:J)(p:Rd w c a short)(b:iq a)(m:a.length<=140737488351232):Calls prog 186 #[.pointer (some ⟨c,0,none⟩)] w λo h=>o=.returned (.int .u8 (num a short 1))/\Rd h c (gP a short 1).1 (gP a short 1).2.1/\w.grownBy h (some c):=by
 have k:0<=num a short 1:=(oz b).1;have l:num a short 1<256:=(oz b).2;have H:=Z p;have j:=Z b;clear p b;go_enter func186,ntmps186
 go_wp2_with fail
 refine(yW c a short 1 _ (Y H) (Y j) m (by omega)).mono ?_;rintro o q⟨rfl,f,g⟩;have d:=Z f;have e:=Z g;clear f g;go_wp2;go_ret;exact⟨GX (by omega),Y d,Y e⟩
def Ay(c:Nat)(a:List Int)(short:Bool)(w:J)(l:Rd w c a short):Calls prog 180 #[.pointer (some ⟨c,0,none⟩)] w λh g=>h=.returned (.bool short)/\g=w:=by
 obtain⟨v,d,e,b⟩:=l;have f:w.cell? ⟨c,1,none⟩=some (.bool short):=by rw[aj d];rfl
 clear d e b;go_enter func180,ntmps180
 go_wp2;go_ret;exact⟨rfl,rfl⟩
def th(b:Nat)(a:List Int)(short:Bool)(w:J)(t:Rd w b a short)(y:a.length<=140737488351232):Calls prog 181 #[.pointer (some ⟨b,0,none⟩)] w λs r=>s=.returned (.bool (!short&&a.isEmpty))/\r=w:=by
 obtain⟨v,d,g,e⟩:=t;have h:w.cell? ⟨b,0,none⟩=some v:=by rw[aj d];rfl
 have o:w.cell? ⟨b,1,none⟩=some (.bool short):=by rw[aj d];rfl
 clear d e;cases short with
 |true=>
  go_enter func181,ntmps181
  go_wp2;go_ret;exact⟨rfl,rfl⟩
 |false=>
  rcases g with⟨rfl,rfl⟩|⟨C,q,f,rfl,p,x⟩
  ·go_enter func181,ntmps181
   go_wp2;go_ret;exact⟨rfl,rfl⟩
  ·cases a with
   |nil=>
    go_enter func181,ntmps181
    go_wp2;go_ret;exact⟨rfl,rfl⟩
   |cons B A=>
    have z:(((B::A).length:Int)==0)=false:=by simp;omega
    go_enter func181,ntmps181
    go_wp2;go_ret;exact⟨rfl,rfl⟩
def yo(a:List Int):aa:=⟨(a.map λx=>UInt8.ofNat x.toNat).toArray⟩
def ru(s:aa):yo (iw s)=s:=by
 have e:((λx:Int=>UInt8.ofNat x.toNat)∘λb:UInt8=>(b.toNat:Int))=id:=by funext b;simp
 unfold yo iw;rw[fY,e,List.map_id]
def ym(a:List Int)(short:Bool):List Int×Bool×List Int:=let b:=gP a short 1;gP b.1 b.2.1 (num a short 1).toNat
def GF{v:M}{a:List Int}{w:J}(f:Bytes w v a)(d:iq a):(convert 119 9 v).run prog w=.ok (.string (yo a)) w:=by
 rcases f with⟨rfl,rfl⟩|⟨i,e,c,rfl,h,g⟩
 ·exact Lib.run_convert_nil_bytes w _ _ 5 0 underlying119 underlying5 underlying9
 ·have:=rh (P:=prog) w 119 9 5 ⟨i,e,none⟩ c (a.map λx=>UInt8.ofNat x.toNat) underlying119 underlying5 underlying9 (λj b=>by
   simp at b;rw[ct,g j b];have k:=d a[j] (au b);simp[b];omega)
  simpa[yo]using this
def yn(c:Nat)(a:List Int)(short:Bool)(C:J)(D:Rd C c a short)(b:iq a)(B:a.length<=140737488351232):Calls prog 215 #[.pointer (some ⟨c,0,none⟩)] C λw t=>w=.returned (.string (yo (ym a short).2.2))/\Rd t c (ym a short).1 (ym a short).2.1/\C.grownBy t (some c):=by
 have h:0<=num a short 1:=(oz b).1;have y:num a short 1<256:=(oz b).2;have H:=Z D;have k:=Z b;clear D b;go_enter func215,ntmps215
 go_wp2_with fail
 refine(zK c a short _ (Y H) (Y k) B).mono ?_;rintro w G⟨rfl,m,o⟩;have d:=Z m;have e:=Z o;clear m o;obtain⟨n,j⟩:=qB h;have s:(ym a short)=gP (gP a short 1).1 (gP a short 1).2.1 n:=by unfold ym;simp[j]
 have E:=(rA a short 1).1;have l:=Z s;have u:=Z ((Y k).uY (short:=short) (n:=1)).1;have A:n<256:=by omega
 have v:=Z j;clear s j;go_wp2_with fail
 rw[Y v];refine(CW c _ _ n _ (Y d) (by omega) (by omega)).mono ?_;rintro w K⟨F,rfl,p,q,x,r⟩;have z:=GF q (Y u).uY.2;have f:=Z p;have g:=Z r;clear p q x r;go_wp2;go_ret;exact⟨by rw[Y l];rfl,by rw[Y l];exact Y f,xw (Y e) (Y g)⟩
def Bytes.of_heap{w w':J}{v:M}{g:List Int}(o:Bytes w v g)(r:w'.heap=w.heap):Bytes w' v g:=by
 rcases o with⟨rfl,rfl⟩|⟨q,e,b,rfl,d,h⟩
 ·exact .inl ⟨rfl,rfl⟩
 ·exact .inr ⟨q,e,b,rfl,d,λk o=>by rw[<-h k o];exact bI (w:=w) (by rw[r])⟩
def Rd.of_heap{w w':J}{d:Nat}{b:List Int}{short:Bool}(q:Rd w d b short)(o:w'.heap=w.heap):Rd w' d b short:=by
 obtain⟨v,e,g,h⟩:=q;exact⟨v,by rw[o];exact e,g.of_heap o,h⟩
def Steps.of_heap{w w':J}(h:Steps w)(e:w'.heap=w.heap):Steps w':=λk b=>by
 rw[<-h k b];exact bI (w:=w) (by rw[e])
def Steps.grown{w e:J}{b:Option Nat}(k:Steps w)(f:w.grownBy e b)(d:b≠some 1):Steps e:=λo g=>f.cell (k o g) (λh=>d h.symm)
def Steps.alloc{w:J}(q:Steps w)(o:Obj):Steps (w.alloc o):=λk h=>by
 have e:=q k h;have d:1<w.heap.size:=by
  by_cases g:1<w.heap.size
  ·exact g
  ·have:w.heap[(1:Nat)]?=none:=dy (by omega);simp[World.cell?,this]at e
 rw[<-e];exact bI (w:=w) (Below.heap_alloc w o _ d)
def Steps.lt{w:J}(h:Steps w):1<w.heap.size:=by
 have a:=h 0 (by decide);by_cases b:1<w.heap.size
 ·exact b
 ·have:w.heap[(1:Nat)]?=none:=dy (by omega);simp[World.cell?,this]at a
def MW(v:M)(a:List Int)(w:J)(c:Bytes w v a)(i:a.length<4):Calls prog 176 #[v] w λg f=>g=.returned (.tuple #[.slice none 0 0,.bool false])/\f=w:=by
 rcases c with⟨rfl,rfl⟩|⟨j,e,b,rfl,d,h⟩;all_goals
  go_enter func176,ntmps176
  go_wp2;go_ret2
  exact⟨rfl,rfl⟩
def Oa(y f c:Nat)(a tail:List Int)(w:J)(G:Steps w)(u:tail.length=4)(R:a.length+4<=c)(X:c<=140737488351232)(H:Bytes w (.slice (some ⟨y,f,none⟩) (a.length+4) c) (a++tail))(t:iq tail):Calls prog 176 #[.slice (some ⟨y,f,none⟩) (a.length+4:Nat) c] w λF T=>
 F=.returned (if jb tail=jv a then .tuple #[.slice (some ⟨y,f,none⟩) a.length c,.bool true]else .tuple #[.slice none 0 0,.bool false])/\Below w.heap.size w T:=by
 have S:=G.lt
 have P:y<w.heap.size:=H.lt (by intro W;simp at W;rw[W.2]at u;simp at u) y rfl
 have q:Bytes w (.slice (some ⟨y,f,none⟩) (a++tail).length c) (a++tail):=by rw[ag,u];exact H
 have v:Bytes w (.slice (some ⟨y,f,none⟩) a.length c) a:=by
  have:=q.take (n:=a.length) (by simp);rwa[lX]at this
 have x:Bytes w (.slice (some ⟨y,f+a.length,none⟩) 4 (c-a.length)) tail:=by
  have:=q.uv (n:=a.length) (by simp);rwa[kg,ag,u,lz]at this
 have O:num tail false 4=jb tail:=by
  unfold num gP;rw[dd (by simp[u]),bP (by omega)]
 have z:=Z v
 have A:=Z x
 have N:=Z O
 have L:=Z t
 have B:=Z G
 clear H q v x O t G
 by_cases r:jb tail=jv a
 ·have C:=Z r;have Q:(num tail false 4 !=jv a)=false:=by rw[Y N,r];simp
  clear r;go_enter func176,ntmps176
  go_wp2_with fail
  refine(iN _ tail w (Y A) (λac K=>by have:=vY K;simp at this;omega)).mono ?_;rintro F l⟨rfl,i,b⟩;have k:l.heap.size=w.heap.size+1:=by rw[b];simp
  have e:Below w.heap.size w l:=by rw[b];exact(Below.refl _ _).alloc (ai _) _
  have h:Hid (Steps l):=by rw[b];exact(Y B).alloc _
  have g:Hid (Bytes l (.slice (some ⟨y,f,none⟩) a.length c) a):=by rw[b];exact(Y z).alloc _
  have D:=Z i;have s:=Z e;have E:=Z k;clear i b k e B z A;go_wp2_with fail
  go_region_with(first
   |(go_at_call 179;refine(uJ w.heap.size tail false _ ?_ (Y L) (by omega)).mono ?_;exact(Y D).of_heap rfl;rintro F U⟨rfl,j,d⟩;have p:=Z (Steps.grown (by exact Steps.of_heap (Y h) rfl) d (by simp;omega));have m:=Z (Bytes.grown (by exact Bytes.of_heap (Y g) rfl) d (.inl (by simp[Value.ownBlock];omega)));have o:=Z (Below.grown (by exact Below.of_heap (Y s) rfl) d (by simp[Y E]) (by simp));clear j d)
   |(go_at_call 173;refine(lB _ a _ ?_ ?_ (by omega)).mono ?_;(first|exact(Y p).of_heap rfl|exact(Y h).of_heap rfl);(first|exact(Y m).of_heap rfl|exact(Y g).of_heap rfl);rintro F V⟨rfl,rfl⟩))
  all_goals
   go_wp2;go_ret2
   exact⟨by first|rfl|(rw[dr (Y C)];rfl),by first|exact(Y o).of_heap rfl|exact Below.of_heap (Y s) rfl⟩
 ·have C:=Z r;have Q:(num tail false 4 !=jv a)=true:=by rw[Y N];simpa using r
  clear r;go_enter func176,ntmps176
  go_wp2_with fail
  refine(iN _ tail w (Y A) (λac K=>by have:=vY K;simp at this;omega)).mono ?_;rintro F l⟨rfl,i,b⟩;have k:l.heap.size=w.heap.size+1:=by rw[b];simp
  have e:Below w.heap.size w l:=by rw[b];exact(Below.refl _ _).alloc (ai _) _
  have h:Hid (Steps l):=by rw[b];exact(Y B).alloc _
  have g:Hid (Bytes l (.slice (some ⟨y,f,none⟩) a.length c) a):=by rw[b];exact(Y z).alloc _
  have D:=Z i;have s:=Z e;have E:=Z k;clear i b k e B z A;go_wp2_with fail
  go_region_with(first
   |(go_at_call 179;refine(uJ w.heap.size tail false _ ?_ (Y L) (by omega)).mono ?_;exact(Y D).of_heap rfl;rintro F U⟨rfl,j,d⟩;have p:=Z (Steps.grown (by exact Steps.of_heap (Y h) rfl) d (by simp;omega));have m:=Z (Bytes.grown (by exact Bytes.of_heap (Y g) rfl) d (.inl (by simp[Value.ownBlock];omega)));have o:=Z (Below.grown (by exact Below.of_heap (Y s) rfl) d (by simp[Y E]) (by simp));clear j d)
   |(go_at_call 173;refine(lB _ a _ ?_ ?_ (by omega)).mono ?_;(first|exact(Y p).of_heap rfl|exact(Y h).of_heap rfl);(first|exact(Y m).of_heap rfl|exact(Y g).of_heap rfl);rintro F V⟨rfl,rfl⟩))
  all_goals
   go_wp2;go_ret2
   exact⟨by first|rfl|(rw[dd (Y C)];rfl),by first|exact(Y o).of_heap rfl|exact Below.of_heap (Y s) rfl⟩
end Go.Proofs.YtophdnlmpfmeiaaGreatDoor
