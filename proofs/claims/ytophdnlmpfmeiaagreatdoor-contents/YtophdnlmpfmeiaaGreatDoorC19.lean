import Derived.Test.YtophdnlmpfmeiaaGreatDoorC13
import Derived.Test.YtophdnlmpfmeiaaGreatDoorC18
namespace Go.Proofs.YtophdnlmpfmeiaaGreatDoor
open ChangeShapes WideShapes RowKit Proofs.Tryz
set_option maxHeartbeats 16000000
set_option linter.all false
set_option maxRecDepth 100000
structure fW.Can(k:fW):Prop where
 size:k.size<=512
 c1:1<=k.count
 c2:k.count<=100
 f1:1<=k.first.size
 f8:k.first.size<=8
 l1:1<=k.last.size
 l8:k.last.size<=8
 le:ep k.last k.first=false
def Gj:(prog.info? 316).map (λi=>(i.zero,i.size,i.bytes))=some (some (.agg #[.int .i64 0,.int .i64 0,.int .i64 0,.string ⟨#[]⟩,.string ⟨#[]⟩]),5,56):=by kernel_rfl
def JW{w:J}{n:Nat}(x y z u v:M)(t:TypeId)(b:n=w.heap.size):∀j q,[x,y,z,u,v][j]?=some q->(w.alloc (.cells #[x,y,z,u,v] t)).cell? ((⟨n,0,none⟩:Addr).add j)=some q:=by
 intro j q a;subst b;rw[ct];unfold World.cell?;rw[ew];simpa using a
def JY(ks:List fW)(k:fW):cO (ks++[k])=cO ks++[.int .i64 k.pos,.int .i64 k.size,.int .i64 k.count,.string k.first,.string k.last]:=by simp[cO,fW.cells]
def BV(a b:aa):(Op.bytesLess a.toList b.toList||a.toList==b.toList)=!ep b a:=by rw[<-Hj];simp
def Ny(t:TypeId)(a b:aa):binOp .leq t (.string a) (.string b)=pure (.bool (Op.bytesLess a.toList b.toList||a.toList==b.toList)):=by simp[binOp,Op.stringOp]
def AS(s:aa)(w:J)(b:1<=s.size)(c:s.size<=8):Calls prog 63 #[.string s] w λe a=>e=.returned (.bool true)/\a=w:=by
 refine(mX s w (by omega)).mono ?_;rintro e a⟨rfl,rfl⟩;exact⟨by simp[b,c],rfl⟩
def LQ(k:fW)(w:J)(h:k.Can):Calls prog 216 #[k.value] w λo p=>o=.returned (.bool true)/\p=w.alloc (.cells #[.int .i64 k.pos,.int .i64 k.size,.int .i64 k.count,.string k.first,.string k.last] 316):=by
 obtain⟨pos,j,b,first,a⟩:=k;have l:=h.size;have m:=h.c1;have n:=h.c2;have e:=h.f1;have f:=h.f8;have g:=h.l1;have i:=h.l8;have q:(Op.bytesLess first.toList a.toList||first.toList==a.toList)=true:=by rw[BV];simp only[h.le];rfl
 simp only at l m n e f g i;unfold fW.value;simp only;clear h;go_enter func216,ntmps216
 go_wp2_with fail
 refine(AS first _ e f).mono ?_;rintro o d⟨rfl,c⟩;subst d;go_wp2_with fail
 refine(AS a _ g i).mono ?_;rintro o d⟨rfl,c⟩;subst d;go_wp2;go_ret;exact⟨rfl,rfl⟩
def oR(ks:List fW):Nat:=(ks.map fW.size).sum
def nQ(ks:List fW):Nat:=(ks.map fW.count).sum
def fm(ks:List fW):aa:=(ks.getLast?.map fW.last).getD ⟨#[]⟩
structure CK(ks:List fW):Prop where
 ne:1<=ks.length
 len:ks.length<=100
 can:∀k∈ks,k.Can
 JS:nQ ks<=100
 pos:∀n(h:n<ks.length),ks[n].pos=oR (ks.take n)
 QB:∀n(h:n<ks.length),ep (fm (ks.take n)) ks[n].first=true
def Fq(ks:List fW)(k:fW):oR (ks++[k])=oR ks+k.size:=by simp[oR]
def wy(ks:List fW)(k:fW):nQ (ks++[k])=nQ ks+k.count:=by simp[nQ]
def zl(ks:List fW)(k:fW):fm (ks++[k])=k.last:=by simp[fm]
def ww(ks:List fW)(n:Nat):nQ (ks.take n)<=nQ ks:=by
 have h:=bB (λl=>(l.map fW.count).sum) (bF n ks);simp only[aN,eG]at h;unfold nQ;omega
def Dc{ks:List fW}(h:∀k∈ks,k.Can):oR ks<=512*ks.length:=by
 induction ks with
 |nil=>simp[oR]
 |cons k ks b=>
  have a:=(h k (by simp)).size;have c:=b (λj a=>h j (by simp[a]));unfold oR at*;simp only[aY,fA,aE];omega
def fW.Can.fits{k:fW}(h:k.Can):k.Fits:=⟨by have:=h.size;omega,by have:=h.c2;omega,by have:=h.f8;omega,by have:=h.l8;omega⟩
def vr(s:aa)(b:s.size<=255):iq (cV s):=by
 intro x a;unfold cV at a;rcases aD.1 a with rfl|a
 ·omega
 ·exact iq.text s x a
def LN{k:fW}(h:k.Fits):iq (ql k):=(iq.le 4 _).append ((iq.le 4 _).append ((vr _ h.first).append (vr _ h.last)))
def Cd{ks:List fW}(h:∀k∈ks,k.Fits):iq (ks.flatMap ql):=by
 intro x a;obtain⟨k,b,a⟩:=iP.1 a;exact LN (h k b) x a
structure CJ(w0 w:J)(rb:Nat)(num cut isz sum:Int)(ks:List fW)(o:M)(n:Nat):Prop where
 own:w.ownsRow w0.heap.size 316 5 o n (cO (ks.take n))
 rd:Rd w rb ((ks.drop n).flatMap ql) false
 box:w.heap[w0.heap.size]?=some (.cells #[.int .u64 num,.int .u32 cut,.int .u32 isz,.int .u32 sum] 233 (0,0))
 ay:I (λ_=>False) w0 w
 KN:w0.heap.size<rb
 pV:∀k,o.ownBlock=some k->rb<k
def yp(cn z t:Nat)(ks:List fW)(num:Int)(A:J)(hT:Steps A)(hP:CK ks)(hb:Bytes A (.slice (some ⟨cn,z,none⟩) (dz ks).length t) (dz ks)):Calls prog 183 #[.slice (some ⟨cn,z,none⟩) (dz ks).length t,.agg #[.int .u64 num,.int .u32 (oR ks:Nat),.int .u32 ((dz ks).length:Nat),.int .u32 (jv (dz ks))]] A λB w'=>
 ∃a,B=.returned (.tuple #[a,.bool true])/\w'.ownsRow A.heap.size 316 5 a ks.length (cO ks)/\I (λ_=>False) A w':=by
 have p:∀k∈ks,k.Fits:=λk h=>(hP.can k h).fits
 have dx:(dz ks).length<=52004:=by
  have h1:=iV p;have h2:=hP.len;unfold dz;rw[ag,bw];omega
 have bo:0<(dz ks).length:=by unfold dz;rw[ag,bw];omega
 have ee:oR ks<=51200:=by have:=Dc hP.can;have:=hP.len;omega
 obtain⟨i0,bn,ch,cj,cl⟩:=bK Gj
 obtain⟨ba,hL⟩:∃ba,(dz ks).length=ba:=⟨_,rfl⟩
 obtain⟨S,hS⟩:∃S,oR ks=S:=⟨_,rfl⟩
 obtain⟨cm,hN⟩:∃cm,ks.length=cm:=⟨_,rfl⟩
 rw[hL]at dx bo
 rw[hS]at ee
 rw[hL,hS]
 have e1:IntKind.i64.wrap (ba:Int)=ba:=by rw[bu];omega
 have e2:IntKind.i64.wrap (S:Int)=S:=by rw[bu];omega
 have ca:∀dk,dk.heap=(A.alloc (.cells #[.int .u64 num,.int .u32 S,.int .u32 ba,.int .u32 (jv (dz ks))] 233)).heap->Calls prog 173 #[.slice (some ⟨cn,z,none⟩) ba t] dk λB w'=>B=.returned (.int .u32 (jv (dz ks)))/\w'=dk:=by
  intro dk a;refine lB _ (dz ks) dk ((hT.alloc _).of_heap a) ?_ (by omega);rw[<-hL];exact(hb.alloc _).of_heap a
 have em:cn<A.heap.size:=hb.lt (by intro B;rw[B]at hL;simp at hL;omega) cn rfl
 have HB:=Z hb
 have X:=Z hP
 have HF:=Z p
 have HL:=Z hL
 have HS:=Z hS
 have G:=Z hN
 clear hb hT hP p hL hS hN
 generalize jv (dz ks)=cp at*
 go_enter func183,ntmps183
 go_wp2_with fail
 go_quiet(first|(go_at_call 173;refine Calls.quiet_of_same (ca _ rfl)))
 have D:∃d,(A.alloc (.cells #[.int .u64 num,.int .u32 S,.int .u32 ba,.int .u32 cp] 233)).drewN nq=d/\I (λ_=>False) A d/\d.heap[A.heap.size]?=some (.cells #[.int .u64 num,.int .u32 S,.int .u32 ba,.int .u32 cp] 233 (0,0))/\Bytes d (.slice (some ⟨cn,z,none⟩) ba t) (dz ks)/\A.heap.size<d.heap.size:=by
  refine⟨_,rfl,((I.refl (λ_=>False) A).alloc _).of_heap rfl,az _ rfl,?_,by simp⟩;have:=(Y HB).alloc (.cells #[.int .u64 num,.int .u32 S,.int .u32 ba,.int .u32 cp] 233);rw[Y HL]at this;exact this.of_heap rfl
 obtain⟨d,D,cd,br,bh,ck⟩:=D
 rw[D]
 have eb:=iN (.slice (some ⟨cn,z,none⟩) ba t) (dz ks) d bh (by intro k h;cases h;show cn<d.heap.size;omega)
 have dc:=Z cd
 have bd:=Z br
 clear D cd br bh
 go_wp2_with fail
 refine eb.mono ?_
 rintro B w2⟨rfl,O,ax⟩
 subst ax
 have dn:=(Y X).ne
 have ds:=(Y X).len
 rw[Y G]at dn ds
 have L:dz ks=le 4 (cm:Nat)++ks.flatMap ql:=by unfold dz;rw[Y G]
 have ek:=oa d.heap.size (cm:Nat) (ks.flatMap ql) _ (L▸O) (Cd (Y HF)) (by have:=iV (Y HF);rw[Y G]at this;omega) (by omega) (by omega)
 clear O L
 go_wp2_with fail
 refine ek.mono ?_
 rintro B w3⟨rfl,P,al⟩
 have db:=Z P
 have cx:=Z al
 have el:=al.size
 simp at el
 clear P al
 go_wp2_with(first
  |(at_make;go_loud(refine gO _ rfl _ _ 261 rfl A.heap.size 316 i0 (.agg #[.int .i64 0,.int .i64 0,.int .i64 0,.string ⟨#[]⟩,.string ⟨#[]⟩]) 5 underlying261 bn ch cj _ _ _ cm rfl rfl (by omega) (by rw[cl];omega) (by unfold maxLen;omega) (by omega) ?_;intro w4 N K;have cM:=Z N;have R:=Z K;clear N K)))
 have ey:=(Y R).size
 have hA0:CJ A w4 d.heap.size num S ba cp ks (.slice (some ⟨w3.heap.size,0,none⟩) 0 cm) 0:=by
  have b:I (λk=>k=d.heap.size) d w3:=((I.refl (λk=>k=d.heap.size) d).alloc _).trans (I.bz (S:=λk=>k=d.heap.size) (Y cx) (by rintro k⟨⟩;exact .inl rfl)) (λ_ H=>.inl H);have a:I (λk=>k=d.heap.size) d w4:=b.trans (I.bz (S:=λ_=>False) (Y R) (by simp)) (λ_ cp=>cp.elim);refine⟨Y cM,(Y db).laid (Y R),(a.block _ (ak (Y bd)) (by intro B;omega)).trans (Y bd),(Y dc).trans a (λk h=>.inr (by omega)),ck,?_⟩;intro k h;simp[Value.ownBlock]at h;omega
 have cs:=Z hA0
 clear hA0
 go_loopw [8,9,10,11,39] (λo p q l i wr=>∃n:Nat,n<=cm/\i=.int .u32 n/\p=.int .i64 (oR (ks.take n):Nat)/\q=.int .i64 (nQ (ks.take n):Nat)/\l=.string (fm (ks.take n))/\CJ A wr d.heap.size num S ba cp ks o n) (λ_ _ _ _ i _=>cm-(intOf i).toNat)
 case atStart=>exact⟨0,aU _,rfl,rfl,rfl,rfl,Y cs⟩
 case round=>
  obtain⟨n,ev,rfl,rfl,rfl,rfl,e⟩:=hrel;have o:=e.own;obtain⟨ox,oc,ho⟩:=aC o;have es:=e.rd.lt;have fb:=e.ay.size;have ad:=ww ks n;have dv:=(Y X).JS;by_cases bq:n<cm
  ·have l:n<ks.length:=by rw[Y G];exact bq
   have f:=(Y X).can ks[n] (au l);have w:=(Y X).pos n l;have u:=(Y X).QB n l;have i:=e.rd;rw[bm l,cF]at i;have v:iq ((ks.drop (n+1)).flatMap ql):=Cd (λk h=>(Y HF) k (cg h));have ea:((ks.drop (n+1)).flatMap ql).length<=52000:=by
    have h1:=iV (ks:=ks.drop (n+1)) (λk h=>(Y HF) k (cg h));have h2:(ks.drop (n+1)).length<=100:=by simp;rw[Y G];omega
    omega
   have x:ks.take (n+1)=ks.take n++[ks[n]]:=aq l;have Q:oR (ks.take n)<=51200:=by
    have h1:=Dc (ks:=ks.take n) (λk h=>(Y X).can k (dC h));have h2:(ks.take n).length<=100:=by simp;omega
    omega
   rw[<-w]at Q|-;have bg:=Z w;have C:=Z x;generalize ks[n]=k at*;generalize hR:(ks.drop (n+1)).flatMap ql=et at*;have HR:=Z hR;clear hR;have q:=λdk=>LQ k dk f;have dT:=f.fits;obtain⟨pos,c,a,first,b⟩:=k;have f1:=f.size;have f2:=f.c2;have f3:=f.f8;have f4:=f.l8;simp only at f1 f2 f3 f4 Q u;unfold ql at i;simp only[aV]at i;unfold fW.value at q;simp only at q;have a8:(Op.bytesLess first.toList (fm (ks.take n)).toList||first.toList==(fm (ks.take n)).toList)=false:=by rw[BV,u];rfl
   have an:iq (cV b++et):=(vr _ (by omega)).append v;have ao:iq (cV first++(cV b++et)):=(vr _ (by omega)).append an;have bp:iq (le 4 a++(cV first++(cV b++et))):=(iq.le 4 _).append ao;have en:(cV b).length<=9:=by unfold cV;rw[aE,fa];omega
   have eo:(cV first).length<=9:=by unfold cV;rw[aE,fa];omega
   have e3:IntKind.i64.wrap (c:Int)=c:=by rw[bu];omega
   have e4:IntKind.i64.wrap (a:Int)=a:=by rw[bu];omega
   have eg:=oa d.heap.size (c:Nat) _ wr i bp (by simp only[ag,bw];omega) (by omega) (by omega);have cB:=Z an;have cE:=Z ao;have bc:=Z v;have HA:=Z e;have bf:=Z (show∀(x:Bool)(A:J),(Op.unary .not (.bool x)).run prog A=.ok (.bool (!x)) A fromλ_ _=>rfl);clear e o i an ao bp v f u dT w x;subst ho;generalize fm (ks.take n)=ll at*;obtain⟨cc,r⟩:∃cc,nQ (ks.take n)=cc:=⟨_,rfl⟩;rw[r]at ad|-;have cv:=Z r;clear r;go_wp2_with fail
   refine eg.mono ?_;rintro B w5⟨rfl,bt,bi⟩;have ax:=oa d.heap.size (a:Nat) _ w5 bt (Y cE) (by simp only[ag];omega) (by omega) (by omega);have U:=Z bi;clear bt bi;go_wp2_with fail
   refine ax.mono ?_;rintro B w6⟨rfl,bv,bk⟩;have ei:=GS d.heap.size first _ w6 bv (Y cB) (by simp only[ag];omega) (by omega)
   have V:=Z bk;clear bv bk;go_wp2_with fail
   refine ei.mono ?_;rintro B w7⟨rfl,bx,bl⟩;have ej:=GS d.heap.size b _ w7 bx (Y bc) (by omega) (by omega);have W:=Z bl;clear bx bl;go_wp2_with fail
   refine ej.mono ?_;rintro B s⟨rfl,bT,F⟩;have HX:=Z (show∀o2 j,j.ownsRow A.heap.size 316 5 o2 (n+1) (cO (ks.take n)++[.int .i64 pos,.int .i64 c,.int .i64 a,.string first,.string b])->du (((s.alloc (.cells #[.int .i64 pos,.int .i64 c,.int .i64 a,.string first,.string b] 316)).alloc (.cells #[.int .i64 pos,.int .i64 c,.int .i64 a,.string first,.string b] 316)).alloc (.cells #[.int .i64 pos,.int .i64 c,.int .i64 a,.string first,.string b] 316)) j (.slice ox n oc) o2->wG j s.heap.size ⟨pos,c,a,first,b⟩/\CJ A j d.heap.size num S ba cp ks o2 (n+1)from by
    intro o2 j m g;have e:=Y HA;have y:I (λk=>k=d.heap.size) wr s:=(((I.bz (S:=λk=>k=d.heap.size) (Y U) (by rintro k⟨⟩;exact .inl rfl)).trans (I.bz (S:=λk=>k=d.heap.size) (Y V) (by rintro k⟨⟩;exact .inl rfl)) (λ_ H=>.inl H)).trans (I.bz (S:=λk=>k=d.heap.size) (Y W) (by rintro k⟨⟩;exact .inl rfl)) (λ_ H=>.inl H)).trans (I.bz (S:=λk=>k=d.heap.size) F (by rintro k⟨⟩;exact .inl rfl)) (λ_ H=>.inl H);have cb:=y.size;have bs:=e.own.lt;have ce:I (λk=>(Value.slice ox n oc).ownBlock=some k) s j:=((((I.refl (λk=>(Value.slice ox n oc).ownBlock=some k) s).alloc _).alloc _).alloc _).trans (I.dU g) (λ_ H=>.inl H);have E:wG (s.alloc (.cells #[.int .i64 pos,.int .i64 c,.int .i64 a,.string first,.string b] 316)) s.heap.size ⟨pos,c,a,first,b⟩:=az _ rfl;have ef:I (λk=>(Value.slice ox n oc).ownBlock=some k) (s.alloc (.cells #[.int .i64 pos,.int .i64 c,.int .i64 a,.string first,.string b] 316)) j:=(((I.refl (λk=>(Value.slice ox n oc).ownBlock=some k) _).alloc _).alloc _).trans (I.dU g) (λ_ H=>.inl H);have ac:=e.pV;refine⟨E.ay ef (λB=>by have:=(bs _ B).2;omega),?_,?_,?_,?_,e.KN,?_⟩
    ·rw[Y C,JY];exact m
    ·have ec:=((bT.laid (cD s (.cells #[.int .i64 pos,.int .i64 c,.int .i64 a,.string first,.string b] 316) none)).laid (cD _ (.cells #[.int .i64 pos,.int .i64 c,.int .i64 a,.string first,.string b] 316) none)).laid (cD _ (.cells #[.int .i64 pos,.int .i64 c,.int .i64 a,.string first,.string b] 316) none);have ed:=ec.wrote g ac;rw[Y HR];exact ed
    ·exact(ce.block _ (by omega) (λB=>by have:=ac _ B;have:=e.KN;omega)).trans ((y.block _ (ak e.box) (λB=>by have:=e.KN;omega)).trans e.box)
    ·exact(e.ay.trans y (λk h=>.inr (by have:=e.KN;omega))).trans ce (λk h=>.inr (bs k h).1)
    ·intro k h;rcases g.sr with eu|⟨fk,eu,hy⟩
     ·exact ac k (eu.symm.trans h)
     ·rw[eu]at h;cases h;simp at hy;omega)
   have cb:d.heap.size<s.heap.size:=by
    have:=(Y U).size;have:=(Y V).size;have:=(Y W).size;have:=F.size;omega
   have cT:=Z (show s.ownsRow A.heap.size 316 5 (.slice ox n oc) n (cO (ks.take n))from by
    have e:=Y HA;have y:I (λk=>k=d.heap.size) wr s:=(((I.bz (S:=λk=>k=d.heap.size) (Y U) (by rintro k⟨⟩;exact .inl rfl)).trans (I.bz (S:=λk=>k=d.heap.size) (Y V) (by rintro k⟨⟩;exact .inl rfl)) (λ_ H=>.inl H)).trans (I.bz (S:=λk=>k=d.heap.size) (Y W) (by rintro k⟨⟩;exact .inl rfl)) (λ_ H=>.inl H)).trans (I.bz (S:=λk=>k=d.heap.size) F (by rintro k⟨⟩;exact .inl rfl)) (λ_ H=>.inl H);exact y.own e.own (λk h B=>by have:=e.pV k h;omega))
   have eq:=Y bf;clear bT F;go_wp2_with fail
   refine(q _).mono ?_;rintro B w9⟨rfl,ex⟩;subst w9;go_wp2_with(first
    |(at_builtin;go_loud(refine aX _ rfl (.tmp 62) (.tmp 64) 261 rfl A.heap.size 316 i0 (.agg #[.int .i64 0,.int .i64 0,.int .i64 0,.string ⟨#[]⟩,.string ⟨#[]⟩]) 5 56 underlying261 bn ch cj cl rfl (by decide) (.slice ox n oc) n (cO (ks.take n)) rfl (aM (aM (aM (Y cT) _) _) _) ⟨s.heap.size+2,0,none⟩ 1 1 [.int .i64 pos,.int .i64 c,.int .i64 a,.string first,.string b] rfl rfl (JW _ _ _ _ _ _ (by simp)) (by simp[Value.oneCell']) (by omega) (by omega) (by simp;omega) ?_;intro o2 j m g;obtain⟨E,hA10⟩:=(Y HX) o2 j m g;obtain⟨m0,m1,m2,m3,m4⟩:=E.cells;simp only at m0 m1 m2 m3 m4;obtain⟨fe,fd,rfl⟩:=aC m;have bb:=Z hA10;clear m g hA10 E)))
   go_quiet(fail)
   go_wp2;go_roundw;case rel=>
    refine⟨n+1,bq,by go_num,?_,?_,?_,?_⟩
    ·rw[Y C,Fq,<-Y bg];go_num
    ·rw[Y C,wy,Y cv];go_num
    ·rw[Y C,zl]
    ·have e:=Y bb;exact⟨e.own,e.rd,e.box,e.ay.of_heap rfl,e.KN,e.pV⟩
   case measure=>simp[intOf];omega
  ·have g:n=cm:=by omega
   subst g;have a:ks.take n=ks:=by rw[<-Y G,bD]
   have i:=e.rd;have c:ks.drop n=[]:=by rw[<-Y G,eJ]
   rw[c]at i;have b:=th d.heap.size (([]:List fW).flatMap ql) false wr i (by simp);simp only[qz,mT,me,pY]at b;have m:wr.cell? ⟨A.heap.size,1,none⟩=some (.int .u32 S):=by rw[aj e.box];rfl
   rw[a]at ad|-;rw[Y HS];rw[ho,a]at o;have l:=Z o;have f:=Z e.ay;clear e o i c a;obtain⟨cc,r⟩:∃cc,nQ ks=cc:=⟨_,rfl⟩;rw[r]at dv ad|-;clear r;have j:((cc:Int)<=100)=True:=by simp;omega
   subst ho;go_wp2_with fail
   refine b.mono ?_;rintro B w5⟨rfl,q⟩;subst w5;go_wp2;go_ret2
   exact⟨_,rfl,by rw[Y G];exact Y l,Y f⟩
def nJ.trans{w w' g:J}{h:Nat}{K r d:DK}(y:nJ w w' h K r)(k:nJ w' g h r d):nJ w g h K d:=⟨k.ok,y.ay.trans k.ay (λx o=>y.aS x o),λx o=>(k.aS x o).elim (λc=>y.aS x c) (λc=>.inr (aB y.ay.size c))⟩
def nJ.refl{w:J}{a:Nat}{K:DK}(h:bR w a K):nJ w w a K K:=⟨h,I.refl _ _,λ_ c=>.inl c⟩
abbrev Fs:=List (aa×List Int)
def vw(a:List bY):Fs:=a.map (λf=>(f.name,f.bytes))
def cR:Fs->aa->Option (List Int)
 |[],_=>none
 |f::r,n=>if f.1=n then some f.2 else cR r n
def qW:Fs->aa->Fs
 |[],_=>[]
 |f::r,n=>if f.1=n then r else f::qW r n
def ph:Fs->aa×List Int->Fs
 |[],f=>[f]
 |g::r,f=>if g.1=f.1 then f::r else g::ph r f
def eW(a:Fs):Nat:=(a.map (·.2.length)).sum
def CS(a:List bY):qe a=eW (vw a):=by
 unfold qe eW vw;rw[fY];rfl
def Ci(a:List bY)(n:aa):cR (vw a) n=(kI a n).map bY.bytes:=by
 induction a with
 |nil=>rfl
 |cons f r b=>
  unfold vw at*;by_cases h:f.name=n<;>simp[cR,kI,h,b]
def Kr(a:List bY)(n:aa):vw (lO a n)=qW (vw a) n:=by
 induction a with
 |nil=>rfl
 |cons f r b=>
  unfold vw at*;by_cases h:f.name=n<;>simp[qW,lO,h,b]
def yj(a:List bY)(f:bY):vw (kM a f)=ph (vw a) (f.name,f.bytes):=by
 induction a with
 |nil=>rfl
 |cons g r b=>
  unfold vw at*;by_cases h:g.name=f.name<;>simp[ph,kM,h,b]
def wj{a:Fs}{n:aa}{d:List Int}(h:cR a n=some d):ph a (n,d)=a:=by
 induction a with
 |nil=>cases h
 |cons g r c=>
  obtain⟨b,f⟩:=g;by_cases e:b=n
  ·subst e;simp[cR]at h;simp[ph,h]
  ·simp[cR,e]at h;simp[ph,e,c h]
def AV{a:Fs}{n:aa}(f d:List Int)(h:cR a n=none):ph (a++[(n,f)]) (n,d)=a++[(n,d)]:=by
 induction a with
 |nil=>simp[ph]
 |cons g r c=>
  obtain⟨b,j⟩:=g;by_cases e:b=n
  ·simp[cR,e]at h
  ·simp[cR,e]at h;simp[ph,e,c h]
def gR(a b:Fs)(n:aa):cR (a++b) n=(cR a n).or (cR b n):=by
 induction a with
 |nil=>simp[cR]
 |cons g r c=>by_cases e:g.1=n<;>simp[cR,e,c]
def qU(b:Fs)(f:aa×List Int)(n:aa):cR (ph b f) n=if f.1=n then some f.2 else cR b n:=by
 induction b with
 |nil=>by_cases e:f.1=n<;>simp[ph,cR,e]
 |cons h r g=>
  by_cases e:h.1=f.1
  ·by_cases a:f.1=n<;>simp[ph,cR,e,a]
  ·by_cases a:h.1=n
   ·have c:¬f.1=n:=λb=>e (a.trans b.symm);have d:¬n=f.1:=λb=>c b.symm;simp[ph,cR,a,c,d]
   ·simp[ph,cR,e,a,g]
def tg{a:Fs}{n:aa}{d:List Int}(h:cR a n=some d):(n,d)∈a:=by
 induction a with
 |nil=>cases h
 |cons g r c=>
  obtain⟨b,f⟩:=g;by_cases e:b=n
  ·subst e;simp[cR]at h;simp[h]
  ·simp[cR,e]at h;exact aJ _ (c h)
def OQ{a:Fs}{f:aa×List Int}(h:f∈a):f.2.length<=eW a:=by
 induction a with
 |nil=>cases h
 |cons g r b=>
  unfold eW at*;rcases aD.1 h with rfl|h
  ·simp
  ·have:=b h;simp only[aY,fA];omega
def qn(a b:Fs):eW (a++b)=eW a+eW b:=by simp[eW]
def gJ{a:List bY}{n:aa}{b:List Int}(h:cR (vw a) n=some b):∃F,kI a n=some F/\F.bytes=b:=by
 rw[Ci]at h;cases e:kI a n with
 |none=>rw[e]at h;cases h
 |some F=>rw[e]at h;simp at h;exact⟨F,rfl,h⟩
def rN{a:List bY}{n:aa}(h:cR (vw a) n=none):kI a n=none:=by
 rw[Ci]at h;cases e:kI a n with
 |none=>rfl
 |some F=>rw[e]at h;cases h
def Aq(d:Nat)(K:DK)(a:aa)(ax l o:Nat)(e:List Int)(U:J)(bd:bR U d K)(E:cR (vw K.files) a=none)(hn:K.cY.length<=1000000000000)(g:eW (vw K.files)+e.length<=1099511627776)(H:iq e)(A:∀ba bb,(e.map (Value.int .u8))[ba]?=some bb->U.cell? ⟨ax,l+ba,none⟩=some bb)(m:ax<U.heap.size)(z:¬K.aS d ax):Calls prog 201 #[.pointer (some ⟨d,0,none⟩),.string a,.slice (some ⟨ax,l,none⟩) e.length o] U λR u=>R=.returned .nilIface/\∃b,nJ U u d K b/\vw b.files=vw K.files++[(a,e)]/\b.cY.length=K.cY.length+1:=by
 have G:=rN E;have ao:=xz d K a U bd (wh G) hn;have HX:=Z (show∀w h,nJ U w d K h->h.files=K.files++[⟨a,U.heap.size,.slice none 0 0,[],0⟩]->Calls prog 112 #[.pointer (some ⟨d,0,none⟩),.string a,.slice (some ⟨ax,l,none⟩) e.length o] w λR u=>R=.returned .nilIface/\∃b,nJ w u d h b/\vw b.files=vw K.files++[(a,e)]/\b.cY=h.cY from by
  intro w h B hf;have y:vw h.files=vw K.files++[(a,[])]:=by rw[hf];simp[vw]
  have F:cR (vw h.files) a=some []:=by rw[y,gR,E];simp[cR]
  obtain⟨bc,hF,f⟩:=gJ F;refine(Bl d h a bc ax l o e w B.ok hF (by rw[CS,y,qn];simp[eW]at g|-;omega) H (λba bb hj=>B.ay.cell (A ba bb hj) z m) (ah m B.ay.size) (by rw[f];simp)).mono ?_;rintro R u⟨rfl,b,p,⟨bf,s⟩,t⟩;refine⟨rfl,b,p,?_,t⟩;rw[s,yj];simp only[f,cL,(iy hF).1];rw[y];exact AV [] e E)
 have HY:=Z (show∀x j,bR x d j->vw j.files=vw K.files++[(a,e)]->Calls prog 74 #[.pointer (some ⟨d,0,none⟩),.string a] x λR u=>R=.returned .nilIface/\∃b,nJ x u d j b/\vw b.files=vw K.files++[(a,e)]/\b.cY=j.cY from by
  intro x j B y;have F:cR (vw j.files) a=some e:=by rw[y,gR,E];simp[cR]
  obtain⟨bc,hF,f⟩:=gJ F;refine(GU d j a bc x B hF (by rw[f];omega)).mono ?_;rintro R u⟨rfl,b,p,s,t⟩;refine⟨rfl,b,p,?_,t⟩;rw[s,yj];simp only[f,(iy hF).1];rw[wj F,y])
 clear bd E G A g z H;go_enter func201,ntmps201
 go_wp2_with fail
 refine ao.mono ?_;rintro R w⟨rfl,h,q,D,L⟩;have ha:=(Y HX) w h q D;have V:=Z q;have ac:=Z L;clear q D L;go_wp2_with fail
 refine ha.mono ?_;rintro R x⟨rfl,j,r,P,N⟩;have hs:=(Y HY) x j r.ok P;have W:=Z r;have ad:=Z N;clear r P N;go_wp2_with fail
 refine hs.mono ?_;rintro R w3⟨rfl,K3,C,Q,O⟩;have X:=Z C;have an:=Z Q;have al:=Z O;clear C Q O;go_wp2;go_ret;exact⟨rfl,K3,((Y V).trans (Y W)).trans (Y X),Y an,by rw[Y al,Y ad,Y ac]⟩
def Dq(b:Nat)(K:DK)(a:aa)(j:List Int)(w:J)(A:bR w b K)(n:cR (vw K.files) a=some j)(l:j.length<=1099511627776):Calls prog 80 #[.pointer (some ⟨b,0,none⟩),.string a] w λz q=>∃p,z=.returned (.tuple #[p,.nilIface])/\dq q w.heap.size p j/\∃h,nJ w q b K h/\h.files=K.files/\h.cY=K.cY/\∀D,h.aS b D->K.aS b D:=by
 obtain⟨F,hF,rfl⟩:=gJ n;have m:=Nc b K a F w A hF (by omega);have g:=vW b K a F 0 F.bytes.length w A hF l (aU _) l;rw[sE,bD]at g;generalize F.bytes=j at*;clear A n hF l;go_enter func80,ntmps80
 go_wp2_with fail
 refine m.mono ?_;rintro z r⟨rfl,B⟩;subst r;go_wp2_with fail
 refine g.mono ?_;rintro z r⟨C,rfl,o,y,c,d,f,e⟩;have x:=Z o;have s:=Z c;have t:=Z d;have v:=Z f;have k:=Z e;clear o c d f e;go_wp2;go_ret2
 exact⟨C,rfl,Y x,y,Y s,Y t,Y v,Y k⟩
def AF(b:Nat)(K:DK)(a:aa)(w:J)(h:bR w b K)(d:cR (vw K.files) a=none):Calls prog 80 #[.pointer (some ⟨b,0,none⟩),.string a] w λj f=>j=.returned (.tuple #[.slice none 0 0,.iface 225 (.pointer (some ⟨w.heap.size,0,none⟩))])/\f=w.alloc (.cells #[.string a,.int .i64 10] 227):=by
 have c:=Ip b K.nb K.sb K.mv 1099511627776 K.reads K.iB _ a w h.fN h.now (wh (rN d));clear h d;go_enter func80,ntmps80
 go_wp2_with fail
 refine c.mono ?_;rintro j g⟨rfl,e⟩;subst g;go_wp2;go_ret2
 exact⟨rfl,rfl⟩
def bX.Og{w:J}{sb:Nat}{s:SR}{k:Int}(h:bX w sb s k)(b:Bool):bX (w.setCell ⟨sb,18,none⟩ (.bool b)) sb {s with gT:=b} k:=by
 have:=aL (i:=18) (u:=.bool b) h;exact this
def bX.Oe{w:J}{sb:Nat}{s:SR}{k:Int}(h:bX w sb s k)(b:Bool):bX (w.setCell ⟨sb,19,none⟩ (.bool b)) sb {s with ga:=b} k:=by
 have:=aL (i:=19) (u:=.bool b) h;exact this
structure eN(w w':J)(db sb:Nat)(K K':DK):Prop where
 ok:bR w' db K'
 ay:I (λk=>K.aS db k\/k=sb) w w'
 aS:∀k,K'.aS db k->K.aS db k\/w.heap.size<=k
def eN.of{w d:J}{b sb:Nat}{K a:DK}(h:nJ w d b K a):eN w d b sb K a:=⟨h.ok,h.ay.mono (λ_ c=>.inl (.inl c)),h.aS⟩
def eN.refl{w:J}{a sb:Nat}{K:DK}(h:bR w a K):eN w w a sb K K:=⟨h,I.refl _ _,λ_ c=>.inl c⟩
def eN.trans{w w' g:J}{h sb:Nat}{K r d:DK}(y:eN w w' h sb K r)(k:eN w' g h sb r d):eN w g h sb K d:=⟨k.ok,y.ay.trans k.ay (λx o=>o.elim (λc=>(y.aS x c).imp .inl id) (λc=>.inl (.inr c))),λx o=>(k.aS x o).elim (λc=>y.aS x c) (λc=>.inr (aB y.ay.size c))⟩
def eN.set{w a:J}{c sb:Nat}{K b:DK}(h:eN w a c sb K b)(e:¬b.aS c sb)(i:Nat)(v:M):eN w (a.setCell ⟨sb,i,none⟩ v) c sb K b:=by
 have d:I (λk=>k=sb) a (a.setCell ⟨sb,i,none⟩ v):=(I.refl _ a).setCell sb i v (.inl rfl);exact⟨h.ok.ay d (λk a g=>e (g▸a)),h.ay.trans d (λk a=>.inl (.inr a)),h.aS⟩
def nJ.uZ{w d:J}{a sb:Nat}{K b:DK}(h:nJ w d a K b)(c:¬K.aS a sb)(f:sb<w.heap.size):¬b.aS a sb:=λe=>(h.aS sb e).elim c (λg=>by omega)
def vg(z:J)(sb:Nat)(s:SR)(bq:Int)(Q:DK)(bb:bX z sb s bq)(hd:bR z s.aH Q)(hn:¬Q.aS s.aH sb)(hp:Pow z)(hl:s.log<18446744073709551616)(hf:s.gT=true->∃bs,cR (vw Q.files) (fM s.log)=some bs/\bs.length<=1000000000000)(hm:Q.cY.length<=1000000000000):Calls prog 49 #[.pointer (some ⟨sb,0,none⟩)] z λbd w'=>bd=.returned .nilIface/\∃r,eN z w' s.aH sb Q r/\vw r.files=vw Q.files/\r.cY.length<=Q.cY.length/\bX w' sb {s with gT:=false,ga:=false} bq:=by
 have y:=ak bb;have ad:∀bf t,bR bf s.aH t->vw t.files=vw Q.files->s.gT=true->Calls prog 74 #[.pointer (some ⟨s.aH,0,none⟩),.string (fM s.log)] bf λbd w'=>bd=.returned .nilIface/\∃r,nJ bf w' s.aH t r/\vw r.files=vw Q.files/\r.cY=t.cY:=by
  intro bf t hW m e;obtain⟨bs,h,A⟩:=hf e;rw[<-m]at h;obtain⟨F,hF,a⟩:=gJ h;refine(GU s.aH t (fM s.log) F bf hW hF (by rw[a];omega)).mono ?_;rintro bd w'⟨rfl,r,b,c,l⟩;refine⟨rfl,r,b,?_,l⟩;rw[c,yj];simp only[a,(iy hF).1];rw[wj h,m]
 have ac:∀bf t,bR bf s.aH t->t.cY.length<=Q.cY.length->Calls prog 76 #[.pointer (some ⟨s.aH,0,none⟩)] bf λbd w'=>bd=.returned .nilIface/\∃r,nJ bf w' s.aH t r/\r.files=t.files/\r.cY=[]:=λbf t hW a=>wQ s.aH t bf hW (by omega);have X:=Z ad;have W:=Z ac;have HP:=Z hp;have R:=Z hd;have HB:=Z bb;have c2:z.cell? ⟨sb,2,none⟩=some (.pointer (some ⟨s.aH,0,none⟩)):=bb.cell rfl;have w:z.cell? ⟨sb,15,none⟩=some (.int .u64 s.log):=bb.cell rfl;have U:z.cell? ⟨sb,18,none⟩=some (.bool s.gT):=bb.cell rfl;have x:z.cell? ⟨sb,19,none⟩=some (.bool s.ga):=bb.cell rfl;clear ad ac hp hd bb hf;cases e:s.gT with
 |false=>
  rw[e]at U;cases hln:s.ga with
  |false=>
   rw[hln]at x;have n:=HB;have g:=Z (eN.refl (sb:=sb) (Y R));have o:=Z (ai Q.cY.length);have p:=Z hn;go_enter func49,ntmps49
   go_wp2;go_ret;refine⟨rfl,Q,Y g,rfl,Y o,?_⟩;have q:=Y n;unfold bX SR.cells at q|-;simp only[e,hln]at q|-;exact q
  |true=>
   rw[hln]at x;have n:=HB;have g:=Z (eN.refl (sb:=sb) (Y R));have o:=Z (ai Q.cY.length);have p:=Z hn;go_enter func49,ntmps49
   have H:=(Y W) z Q (Y g).ok (Y o);go_wp2_with fail
   refine H.mono ?_;rintro bd w8⟨rfl,K8,k,K,N⟩;have d:=k.uZ (Y p) (ah y (Y g).ay.size);have j:bX w8 sb _ bq:=(Y n).ay k.ay (Y p);have bk:w8.cell? ⟨sb,19,none⟩=some (.bool true):=j.cell (by rw[<-hln];rfl);have bo:w8.frozen? ⟨sb,19,none⟩=false:=j.free;have an:=Z (((Y g).trans (eN.of k)).set d 19 (.bool false));have al:=Z (j.Oe false);have ao:=Z K;have ax:=Z N;clear k K N d j H;go_wp2;go_ret;refine⟨rfl,K8,Y an,by rw[Y ao],by rw[Y ax];exact aU _,?_⟩;have q:=Y al;unfold bX SR.cells at q|-;simp only[e]at q|-;exact q
 |true=>
  rw[e]at U;cases hln:s.ga with
  |false=>
   rw[hln]at x;have hS:z.drew.cell? ⟨sb,2,none⟩=some (.pointer (some ⟨s.aH,0,none⟩))/\z.drew.cell? ⟨sb,15,none⟩=some (.int .u64 s.log):=⟨c2,w⟩;go_enter func49,ntmps49
   go_wp2_with fail
   rename_i QQ KK D;refine bM (λbh=>bh.cell? ⟨sb,2,none⟩=some (.pointer (some ⟨s.aH,0,none⟩))/\bh.cell? ⟨sb,15,none⟩=some (.int .u64 s.log)) 10 (by kernel_rfl) ?_;refine cz 0 ?_;iterate 8 (refine cy (v:=?_) hS rfl (by kernel_rfl) (λ_ _ _ bb=>bb) (Or.inl ⟨by rfl,?_⟩) ?_;rotate_left;(focus(intro bh hX;obtain⟨z0,z1⟩:=hX;go_simp;try with_reducible rfl));simp only[Act.put,Nat.reduceAdd,ab,ae,af])
   refine dG ?_;refine aI (i:=8) rfl rfl (by kernel_rfl) ?_;intro K8 B;go_simp;refine(rJ s.log hl z.drew ((Y HP).ay (bS (λ_=>False) z) id)).mono ?_;rintro bd V⟨rfl,G⟩;have a:I (λ_=>False) z V:=(bS (λ_=>False) z).trans (I.aR (S:=λ_=>False) G) (λ_ bc=>bc.elim);have E:V.cell? ⟨sb,2,none⟩=some (.pointer (some ⟨s.aH,0,none⟩))/\V.cell? ⟨sb,15,none⟩=some (.int .u64 s.log):=⟨a.cell c2 id y,a.cell w id y⟩;have O:=(Y X) V Q ((Y R).ay a (λ_ _=>id)) rfl e;refine B _ _ (λ_=>E) ?_;refine aI (i:=9) rfl rfl (by kernel_rfl) ?_;intro K9 C;go_simp;refine O.mono ?_;rintro bd l⟨rfl,K2,c,P,L⟩;have bp:=a.size;have b:bX l sb s bq:=((Y HB).ay a id).ay c.ay hn;have F:l.cell? ⟨sb,2,none⟩=some (.pointer (some ⟨s.aH,0,none⟩))/\l.cell? ⟨sb,15,none⟩=some (.int .u64 s.log):=⟨b.cell rfl,b.cell rfl⟩;refine C _ _ (λ_=>F) ?_;refine aI (i:=10) rfl rfl (by kernel_rfl) ?_;intro bg m;go_simp;refine m _ _ (λbc=>(bc rfl).elim) ?_;refine cr (by kernel_rfl) ?_ _;show KK _ _;refine D _ _ ?_;have d:=c.uZ hn (by omega);have A:nJ z l s.aH Q K2:=⟨c.ok,(a.mono (T:=Q.aS s.aH) (λ_ bc=>bc.elim)).trans c.ay (λ_ bb=>.inl bb),λt r=>(c.aS t r).imp id (λbc=>by omega)⟩;have bi:l.cell? ⟨sb,18,none⟩=some (.bool true):=b.cell (by rw[<-e];rfl);have bn:l.frozen? ⟨sb,18,none⟩=false:=b.free;have h:=b.Og false;have bl:(l.setCell ⟨sb,18,none⟩ (.bool false)).cell? ⟨sb,19,none⟩=some (.bool false):=h.cell (by rw[<-hln];rfl);have e2:(l.setCell ⟨sb,18,none⟩ (.bool false)).cell? ⟨sb,2,none⟩=some (.pointer (some ⟨s.aH,0,none⟩)):=h.cell rfl;have n:=Z h;have g:=Z ((eN.of (sb:=sb) A).set d 18 (.bool false));have ba:=Z P;have o:=Z (show K2.cY.length<=Q.cY.length by rw[L];exact ai _);have p:=Z d;clear D B C m hS E F O c P L b h d A a G c2 w U x;go_wp2;go_ret;refine⟨rfl,K2,Y g,Y ba,Y o,?_⟩;have q:=Y n;unfold bX SR.cells at q|-;simp only[e,hln]at q|-;exact q
  |true=>
   rw[hln]at x;have hS:z.drew.cell? ⟨sb,2,none⟩=some (.pointer (some ⟨s.aH,0,none⟩))/\z.drew.cell? ⟨sb,15,none⟩=some (.int .u64 s.log):=⟨c2,w⟩;go_enter func49,ntmps49
   go_wp2_with fail
   rename_i QQ KK D;refine bM (λbh=>bh.cell? ⟨sb,2,none⟩=some (.pointer (some ⟨s.aH,0,none⟩))/\bh.cell? ⟨sb,15,none⟩=some (.int .u64 s.log)) 10 (by kernel_rfl) ?_;refine cz 0 ?_;iterate 8 (refine cy (v:=?_) hS rfl (by kernel_rfl) (λ_ _ _ bb=>bb) (Or.inl ⟨by rfl,?_⟩) ?_;rotate_left;(focus(intro bh hX;obtain⟨z0,z1⟩:=hX;go_simp;try with_reducible rfl));simp only[Act.put,Nat.reduceAdd,ab,ae,af])
   refine dG ?_;refine aI (i:=8) rfl rfl (by kernel_rfl) ?_;intro K8 B;go_simp;refine(rJ s.log hl z.drew ((Y HP).ay (bS (λ_=>False) z) id)).mono ?_;rintro bd V⟨rfl,G⟩;have a:I (λ_=>False) z V:=(bS (λ_=>False) z).trans (I.aR (S:=λ_=>False) G) (λ_ bc=>bc.elim);have E:V.cell? ⟨sb,2,none⟩=some (.pointer (some ⟨s.aH,0,none⟩))/\V.cell? ⟨sb,15,none⟩=some (.int .u64 s.log):=⟨a.cell c2 id y,a.cell w id y⟩;have O:=(Y X) V Q ((Y R).ay a (λ_ _=>id)) rfl e;refine B _ _ (λ_=>E) ?_;refine aI (i:=9) rfl rfl (by kernel_rfl) ?_;intro K9 C;go_simp;refine O.mono ?_;rintro bd l⟨rfl,K2,c,P,L⟩;have bp:=a.size;have b:bX l sb s bq:=((Y HB).ay a id).ay c.ay hn;have F:l.cell? ⟨sb,2,none⟩=some (.pointer (some ⟨s.aH,0,none⟩))/\l.cell? ⟨sb,15,none⟩=some (.int .u64 s.log):=⟨b.cell rfl,b.cell rfl⟩;refine C _ _ (λ_=>F) ?_;refine aI (i:=10) rfl rfl (by kernel_rfl) ?_;intro bg m;go_simp;refine m _ _ (λbc=>(bc rfl).elim) ?_;refine cr (by kernel_rfl) ?_ _;show KK _ _;refine D _ _ ?_;have d:=c.uZ hn (by omega);have A:nJ z l s.aH Q K2:=⟨c.ok,(a.mono (T:=Q.aS s.aH) (λ_ bc=>bc.elim)).trans c.ay (λ_ bb=>.inl bb),λt r=>(c.aS t r).imp id (λbc=>by omega)⟩;have bi:l.cell? ⟨sb,18,none⟩=some (.bool true):=b.cell (by rw[<-e];rfl);have bn:l.frozen? ⟨sb,18,none⟩=false:=b.free;have h:=b.Og false;have bl:(l.setCell ⟨sb,18,none⟩ (.bool false)).cell? ⟨sb,19,none⟩=some (.bool true):=h.cell (by rw[<-hln];rfl);have e2:(l.setCell ⟨sb,18,none⟩ (.bool false)).cell? ⟨sb,2,none⟩=some (.pointer (some ⟨s.aH,0,none⟩)):=h.cell rfl;have n:=Z h;have g:=Z ((eN.of (sb:=sb) A).set d 18 (.bool false));have ba:=Z P;have o:=Z (show K2.cY.length<=Q.cY.length by rw[L];exact ai _);have p:=Z d;clear D B C m hS E F O c P L b h d A a G c2 w U x;have H:=(Y W) (l.setCell ⟨sb,18,none⟩ (.bool false)) K2 (Y g).ok (Y o);go_wp2_with fail
   refine H.mono ?_;rintro bd w8⟨rfl,K8,k,K,N⟩;have d:=k.uZ (Y p) (ah y (Y g).ay.size);have j:bX w8 sb _ bq:=(Y n).ay k.ay (Y p);have bk:w8.cell? ⟨sb,19,none⟩=some (.bool true):=j.cell (by rw[<-hln];rfl);have bo:w8.frozen? ⟨sb,19,none⟩=false:=j.free;have an:=Z (((Y g).trans (eN.of k)).set d 19 (.bool false));have al:=Z (j.Oe false);have ao:=Z K;have ax:=Z N;clear k K N d j H;go_wp2;go_ret;refine⟨rfl,K8,Y an,by rw[Y ao];exact Y ba,by rw[Y ax];exact aU _,?_⟩;have q:=Y al;unfold bX SR.cells at q|-;simp only[e]at q|-;exact q
section
open Go.Conc.Locks
def SR.shut(s:SR):SR:={s with closed:=true,memory:=.slice none 0 0,l0:=.slice none 0 0,l1:=.slice none 0 0,l2:=.slice none 0 0,l3:=.slice none 0 0}
def MB(w:J)(sb:Nat)(s:SR)(h:bX w sb s 0)(c:s.closed=true):Calls prog 22 #[.pointer (some ⟨sb,0,none⟩)] w λi b=>i=.returned (kr 6)/\bX b sb s 0/\I (λk=>k=sb) w b:=by
 have e:w.cell? ⟨sb,0,none⟩=some (.int .i32 0):=h.cell rfl;have j:w.frozen? ⟨sb,0,none⟩=false:=h.free;have a:=h.gH 1;have c5:(w.setCell ⟨sb,0,none⟩ (.int .i32 1)).cell? ⟨sb,5,none⟩=some (.bool true):=a.cell (by rw[<-c];rfl);have g:(w.setCell ⟨sb,0,none⟩ (.int .i32 1)).cell? ⟨sb,0,none⟩=some (.int .i32 1):=a.cell rfl;have l:(w.setCell ⟨sb,0,none⟩ (.int .i32 1)).frozen? ⟨sb,0,none⟩=false:=a.free;have d:=Z (show bX ((w.setCell ⟨sb,0,none⟩ (.int .i32 1)).setCell ⟨sb,0,none⟩ (.int .i32 0)) sb s 0/\I (λk=>k=sb) w ((w.setCell ⟨sb,0,none⟩ (.int .i32 1)).setCell ⟨sb,0,none⟩ (.int .i32 0))from⟨a.gH 0,((I.refl (λk=>k=sb) w).setCell sb 0 _ (.inl rfl)).setCell sb 0 _ (.inl rfl)⟩);clear h a c;go_enter_defers func22,ntmps22
 go_wp2_with(go_at_call 39;refine(lock_free ⟨sb,0,none⟩ _ e j).mono ?_;rintro i b⟨rfl,rfl⟩)
 refine ij (f:=40) (args:=#[.pointer (some ⟨sb,0,none⟩)]) (by simp) (by simp[go_sem]) ?_;refine(unlock_deferred ⟨sb,0,none⟩ .returning _ g l).mono ?_;rintro i n m⟨rfl,rfl,rfl⟩;exact⟨_,iL rfl _ _ _,rfl,Y d⟩
def JU(w:J)(sb:Nat)(s:SR)(K:DK)(ac:bX w sb s 0)(hc:s.closed=false)(T:∃y t j,s.memory=.slice y t j)(L:∃y t j,s.l0=.slice y t j)(N:∃y t j,s.l1=.slice y t j)(O:∃y t j,s.l2=.slice y t j)(P:∃y t j,s.l3=.slice y t j)(R:bR w s.aH K)(o:¬K.aS s.aH sb)(hp:Pow w)(V:sb≠3)(hl:s.log<18446744073709551616)(hf:s.gT=true->∃bs,cR (vw K.files) (fM s.log)=some bs/\bs.length<=1000000000000)(hm:K.cY.length<=1000000000000):Calls prog 22 #[.pointer (some ⟨sb,0,none⟩)] w λr v=>r=.returned .nilIface/\∃h,eN w v s.aH sb K h/\vw h.files=vw K.files/\h.cY.length<=K.cY.length/\bX v sb {s.shut with gT:=false,ga:=false} 0:=by
 have c0:w.cell? ⟨sb,0,none⟩=some (.int .i32 0):=ac.cell rfl;have f0:w.frozen? ⟨sb,0,none⟩=false:=ac.free;obtain⟨a,d⟩:∃a,w.setCell ⟨sb,0,none⟩ (.int .i32 1)=a:=⟨_,rfl⟩;have b:bX a sb s 1:=by rw[<-d];exact ac.gH 1
 have p:I (λX=>X=sb) w a:=by rw[<-d];exact(I.refl (λX=>X=sb) w).setCell sb 0 _ (.inl rfl)
 have c5:a.cell? ⟨sb,5,none⟩=some (.bool false):=b.cell (by rw[<-hc];rfl);have c6:a.cell? ⟨sb,6,none⟩=some .nilIface:=b.cell rfl;have c7:a.cell? ⟨sb,7,none⟩=some s.memory:=b.cell rfl;have E:a.cell? ⟨sb,10,none⟩=some s.l0:=b.cell rfl;have F:a.cell? ⟨sb,11,none⟩=some s.l1:=b.cell rfl;have G:a.cell? ⟨sb,12,none⟩=some s.l2:=b.cell rfl;have H:a.cell? ⟨sb,13,none⟩=some s.l3:=b.cell rfl;have g5:a.frozen? ⟨sb,5,none⟩=false:=b.free;have g7:a.frozen? ⟨sb,7,none⟩=false:=b.free;have ad:a.frozen? ⟨sb,10,none⟩=false:=b.free;have al:a.frozen? ⟨sb,11,none⟩=false:=b.free;have an:a.frozen? ⟨sb,12,none⟩=false:=b.free;have ao:a.frozen? ⟨sb,13,none⟩=false:=b.free;obtain⟨l,e⟩:∃l,(((((a.setCell ⟨sb,5,none⟩ (.bool true)).setCell ⟨sb,7,none⟩ (.slice none 0 0)).setCell ⟨sb,10,none⟩ (.slice none 0 0)).setCell ⟨sb,11,none⟩ (.slice none 0 0)).setCell ⟨sb,12,none⟩ (.slice none 0 0)).setCell ⟨sb,13,none⟩ (.slice none 0 0)=l:=⟨_,rfl⟩;have Q:bX l sb s.shut 1:=by
  have U:=aL (i:=13) (u:=.slice none 0 0) (aL (i:=12) (u:=.slice none 0 0) (aL (i:=11) (u:=.slice none 0 0) (aL (i:=10) (u:=.slice none 0 0) (aL (i:=7) (u:=.slice none 0 0) (aL (i:=5) (u:=.bool true) b)))));rw[e]at U;exact U
 have c:I (λX=>X=sb) w l:=by
  rw[<-e];exact(((((p.setCell sb 5 _ (.inl rfl)).setCell sb 7 _ (.inl rfl)).setCell sb 10 _ (.inl rfl)).setCell sb 11 _ (.inl rfl)).setCell sb 12 _ (.inl rfl)).setCell sb 13 _ (.inl rfl)
 have n:=vg l sb s.shut 1 K Q (R.ay c (λX S r=>o (r▸S))) o (hp.ay c (λr=>V r.symm)) hl hf hm;have A:=Z Q;have z:=Z (R.ay c (λX S r=>o (r▸S)));have B:=Z c;have C:=Z d;have D:=Z e;obtain⟨mx,mn,mc,em⟩:=T;obtain⟨bd,bc,bb,ea⟩:=L;obtain⟨bx,bn,bf,eb⟩:=N;obtain⟨cx,cn,cc,ec⟩:=O;obtain⟨dx,dn,dc,ed⟩:=P;rw[em]at c7;rw[ea]at E;rw[eb]at F;rw[ec]at G;rw[ed]at H;clear ac b p hc R hp hf Q c d e em ea eb ec ed;go_enter_defers func22,ntmps22
 go_wp2_with fail
 refine(lock_free ⟨sb,0,none⟩ _ c0 f0).mono ?_;rintro r v⟨rfl,W⟩;rw[Y C]at W;subst v;go_wp2_with fail
 rw[Y D];refine n.mono ?_;rintro r x⟨rfl,K2,k,q,m,g⟩;have d0:x.cell? ⟨sb,0,none⟩=some (.int .i32 1):=g.cell rfl;have k0:x.frozen? ⟨sb,0,none⟩=false:=g.free;have HF:=Z (show∃h,eN w (x.setCell ⟨sb,0,none⟩ (.int .i32 0)) s.aH sb K h/\vw h.files=vw K.files/\h.cY.length<=K.cY.length/\bX (x.setCell ⟨sb,0,none⟩ (.int .i32 0)) sb {s.shut with gT:=false,ga:=false} 0 from by
  have ax:=ak (Y A);have U:¬K2.aS s.aH sb:=λj=>(k.aS sb j).elim o (λd=>by omega);have h0:eN w l s.aH sb K K:=⟨Y z,(Y B).mono (λ_ j=>.inl (.inr j)),λ_ j=>.inl j⟩;exact⟨K2,(h0.trans k).set U 0 (.int .i32 0),q,m,g.gH 0⟩)
 clear n g k q m o;go_wp2;refine ij (f:=40) (args:=#[.pointer (some ⟨sb,0,none⟩)]) (by simp) (by simp[go_sem]) ?_;refine(unlock_deferred ⟨sb,0,none⟩ .returning _ d0 k0).mono ?_;rintro r u' ba⟨rfl,rfl,rfl⟩;exact⟨_,iL rfl _ _ _,rfl,Y HF⟩
end
def qV(a:Fs)(b:List aa):Fs:=b.foldl qW a
def Ck{a:Fs}{n m:aa}(h:m≠n):cR (qW a n) m=cR a m:=by
 induction a with
 |nil=>rfl
 |cons g r d=>
  obtain⟨c,f⟩:=g;by_cases e:c=n
  ·simp only[qW,e,iY,cR];rw[dd (λc=>h c.symm)]
  ·by_cases b:c=m
   ·subst b;simp only[qW,dd h,cR,iY]
   ·simp only[qW,dd e,cR,dd b,d]
def Gp(a:Fs)(b:List aa)(n:aa):qV a (b++[n])=qW (qV a b) n:=by simp[qV]
def pq{a:Fs}{b:List aa}{m:aa}(h:m∉b):cR (qV a b) m=cR a m:=by
 induction b generalizing a with
 |nil=>rfl
 |cons n r d=>
  show cR (qV (qW a n) r) m=cR a m;rw[d (λc=>h (by simp[c])),Ck (λc=>h (by simp[c]))]
def yM(y:J)(sb:Nat)(x:SR)(k:Int)(K:DK)(v:M)(a:List aa)(ac:bX y sb x k)(w:bR y x.aH K)(O:¬K.aS x.aH sb)(hr:Row y 1 v a.length (a.map Value.string))(P:∀ba,v.ownBlock=some ba->ba<y.heap.size/\¬K.aS x.aH ba)(h:a.Nodup)(j:∀bg∈a,∃N,cR (vw K.files) bg=some N)(hm:K.cY.length+a.length<=1000000000000):Calls prog 84 #[.pointer (some ⟨sb,0,none⟩),v] y λbc w'=>bc=.returned .nilIface/\∃H,nJ y w' x.aH K H/\vw H.files=qV (vw K.files) a/\H.cY.length=K.cY.length+a.length:=by
 have ax:=ak ac;rcases hr with⟨t,⟨rfl,R⟩|⟨bb,Q,ad,rfl,an,V⟩⟩
 ·obtain rfl:=aG R;have l:=Z (nJ.refl w);clear ac w O P h j t R;go_enter func84,ntmps84
  go_wp2;go_loopw [10] (λi wr=>i=.int .i64 0/\wr=y) (λ_ _=>0)
  case atStart=>exact⟨rfl,rfl⟩
  case round=>
   obtain⟨rfl,b⟩:=hrel;subst wr;go_wp2;go_ret;exact⟨rfl,K,Y l,rfl,rfl⟩
 ·have U:=P bb rfl;have HB:=Z ac;have HC:=Z V;have HN:=Z O;have E:=Z h;have F:=Z j;have z:=Z (nJ.refl w);clear ac w O P h j t V;go_enter func84,ntmps84
  go_wp2;go_loopw [10] (λi wr=>∃(m:Nat)(e:DK),m<=a.length/\i=.int .i64 m/\nJ y wr x.aH K e/\vw e.files=qV (vw K.files) (a.take m)/\e.cY.length=K.cY.length+m) (λi _=>a.length-(intOf i).toNat)
  case atStart=>exact⟨0,K,aU _,rfl,Y z,rfl,rfl⟩
  case round=>
   obtain⟨m,e,ao,rfl,g,b,d⟩:=hrel;by_cases c:m<a.length
   ·have al:wr.cell? ⟨bb,Q+m,none⟩=some (.string a[m]):=g.ay.cell ((Y HC) m _ (by rw[cP,aA c];rfl)) U.2 U.1;have o:=(Y HB).ay g.ay (Y HN);have c2:wr.cell? ⟨sb,2,none⟩=some (.pointer (some ⟨x.aH,0,none⟩)):=o.cell rfl;have f:a[m]∉a.take m:=by
     intro bf;obtain⟨i,hi,W⟩:=dj bf;have r:i<m/\i<a.length:=by simp at hi;omega
     rw[fi]at W;have:=(List.nodup_iff_pairwise_ne.1 (Y E));exact bG.1 this i m r.2 c r.1 W
    obtain⟨N,n⟩:=(Y F) _ (au c);have X:cR (vw e.files) a[m]=some N:=by rw[b,pq f];exact n
    obtain⟨bd,hF,_⟩:=gJ X;have u:=FE x.aH e a[m] bd wr g.ok hF (by omega);have G:=Z (show qV (vw K.files) (a.take (m+1))=qW (vw e.files) a[m]by rw[aq c,Gp,b]);have l:=Z g;have D:=Z d;clear g b d o f X hF n;generalize a[m]=nm at*;go_wp2_with fail
    refine u.mono ?_;rintro bc w1⟨rfl,L,p,q,s⟩;have A:=Z ((Y l).trans p);have B:=Z (show vw L.files=qV (vw K.files) (a.take (m+1))by rw[Y G,q,Kr]);have C:=Z (show L.cY.length=K.cY.length+(m+1)by rw[s,Y D];omega);clear p q s u;go_wp2;go_roundw;case rel=>exact⟨m+1,L,c,by go_num,Y A,Y B,Y C⟩
    case measure=>simp[intOf];omega
   ·have f:m=a.length:=by omega
    subst f;rw[bD]at b;have l:=Z g;have o:=Z b;have n:=Z d;clear g b d;go_wp2;go_ret;exact⟨rfl,e,Y l,Y o,Y n⟩
def Mw(db:Nat)(ac:DK)(V:J)(h:bR V db ac)(cv:∀f∈ac.files,f.bytes.length<=1099511627776)(E:((vw ac.files).map (·.1)).Nodup):Calls prog 24 #[.pointer (some ⟨db,0,none⟩)] V λcj w'=>∃d K',cj=.returned (.pointer (some ⟨d,0,none⟩))/\bR w' d K'/\(vw K'.files).Perm (vw ac.files)/\K'.cY=[]/\(∀k,K'.aS d k->V.heap.size<=k)/\I (λ_=>False) V w':=by
 have es:V.cell? ⟨db,0,none⟩=some (.map (some ac.nb)):=by rw[aj h.fN];rfl
 have et:V.cell? ⟨db,3,none⟩=some (.int .i64 1099511627776):=by rw[aj h.fN];rfl
 have cn:=xg V;have HD:=Z h;have HB:=Z cv;have HN:=Z E;clear h cv E;go_enter func24,ntmps24
 go_wp2_with fail
 refine cn.mono ?_;rintro cj w1⟨rfl,q,cs⟩;have Q:I (λ_=>False) V w1:=I.aR cs;have bh:=(Y HD).ay Q (λ_ _=>id);have gb:w1.cell? ⟨db,0,none⟩=some (.map (some ac.nb)):=by rw[aj bh.fN];rfl
 obtain⟨d,bf⟩:∃d,V.heap.size+2=d:=⟨_,rfl⟩;rw[bf]at q|-;obtain⟨K1,z⟩:∃K1,nB V.heap.size=K1:=⟨_,rfl⟩;rw[z]at q;have dx:K1.cY=[]:=by rw[<-z];rfl
 have cB:K1.files=[]:=by rw[<-z];rfl
 have an:∀k,K1.aS d k->V.heap.size<=k:=by
  intro k l;rw[<-z,<-bf]at l;rcases l with c|c|c|c|⟨hd,hx,c⟩|⟨he,hg,c⟩
  ·omega
  ·have:k=V.heap.size:=c;omega
  ·have:k=V.heap.size+1:=c;omega
  ·cases c
  ·cases hx
  ·cases hg
 have cb:=Z bh.now;have u:=Z q;have ce:=Z Q;have W:=Z an;have em:=Z dx;have ei:=Z cB;have fu:=Q.size;clear cn cs Q bh q an dx cB z bf es et;go_wp2_with(first
  |(at_range;refine qa _ rfl _ 70 rfl 9 118 underlying70 ac.nb _ rfl (Y cb) ?_;intro w0 ao dc fl;have bv:=Z ao;have x:=Z dc;clear ao dc))
 go_frame
 obtain⟨N,ed⟩:∃N,w1.heap.size=N:=⟨_,rfl⟩;rw[ed]at bv|-;have gf:V.heap.size<=N:=by omega
 have bq:=Z ((Y u).ay (I.bz (S:=λ_=>False) (Y x) (by simp)) (λ_ _=>id));have eo:=Z ((Y ce).trans (I.bz (S:=λ_=>False) (Y x) (by simp)) (λ_ c=>c.elim));have bt:=Z (show∀k,K1.aS d k->V.heap.size<=k/\k≠N fromλk l=>⟨(Y W) k l,by have:=(Y u).lt k l;omega⟩);clear u ce W x fu fl ed;go_loopw [4] (λ_ wr=>∃(fv:List bY)(K':DK),(vw K'.files++vw fv).Perm (vw ac.files)/\K'.cY=[]/\bR wr d K'/\(∀k,K'.aS d k->V.heap.size<=k/\k≠N)/\lf wr ac.nb N (ac.files.map bY.nm) (fv.map bY.nm)/\(∀f∈fv,f∈ac.files)/\I (λ_=>False) V wr) (λ_ wr=>wr.rangeLeft ac.nb N)
 case atStart=>
  refine⟨ac.files,K1,?_,Y em,Y bq,Y bt,Y bv,λ_ c=>c,Y eo⟩;rw[Y ei];exact sF _
 case round=>
  obtain⟨fv,K',hp,hm,cx,cT,ds,hL,ht⟩:=hrel;have bT:=Z ds;have HT:=Z ht;have HP:=Z hp;have br:=Z cx;have g:=Z cT;have HL:=Z hL;have HM:=Z hm;clear ds ht hp cx cT hL hm;go_wp2_with(first
   |(at_next;refine rm _ rfl _ rfl ac.nb N _ _ rfl (Y bT) ?_ ?_))
  ·intro a;obtain rfl:fv=[]:=by simpa using a
   go_wp2;go_ret;refine⟨d,rfl,K',Y br,?_,Y HM,λk l=>((Y g) k l).1,Y HT⟩;have:=Y HP;simpa[vw]using this
  ·intro hb pk pv gi j eg ax dk fn gv;obtain⟨gj,f,gk,rfl,rfl,ec,rfl⟩:=yZ eg;simp only[bY.nm,ly,eY]at ec;obtain⟨rfl,rfl⟩:=ec;have bo:I (λk=>k=N) wr j:=I.bz (S:=λk=>k=N) dk (by rintro k⟨⟩;exact .inl rfl);have K:I (λ_=>False) V j:=(Y HT).trans bo (λhd hx=>.inr (by omega));have r:=(Y br).ay bo (λk l cj=>((Y g) k l).2 cj);have cE:f∈ac.files:=(Y HL) f (by simp);have cM:=(Y HD).files f cE;have e:=cM.ay K id (λ_ _ c=>c);have bg:=Be f.data f.bytes j.drew (e.2.1.bytes.of_heap rfl) ((Y HB) f cE) (λk l=>((aK e.2.1 k l).2:k<j.heap.size));have fe:=ak e.1;have k0:j.drew.cell? ⟨d,0,none⟩=some (.map (some K'.nb)):=by rw[aQ,aj r.fN];rfl
   have kd:j.drew.cell? ⟨f.lM,0,none⟩=some f.data:=by rw[aQ,aj e.1];rfl
   obtain⟨fz,fx,ev⟩:=aC e.2.1;have ba:=ak r.fN;have a:=Z r;have y:=Z K;have w:=Z ax;have ej:=Z e;clear eg ax dk fn bo K r cM e;rw[ev]at kd bg;go_wp2_with fail
   rename_i QQ KK cm;refine bM (λX=>X.cell? ⟨d,0,none⟩=some (.map (some K'.nb))/\X.cell? ⟨f.lM,0,none⟩=some (.slice fz f.bytes.length fx)) 17 (by kernel_rfl) ?_;have b:=bj k0 kd;refine da (i:=0) (v:=?_) rfl rfl (by kernel_rfl) (by kernel_rfl) (by kernel_rfl) (by kernel_rfl) (λ_ _ _ h=>h) (Or.inl ⟨by rfl,?_⟩) b ?_;rotate_left
   ·rintro X⟨o,p⟩;go_simp;try with_reducible rfl
   try simp only[Act.put,ab,ae,af]
   refine da (i:=1) (v:=?_) rfl rfl (by kernel_rfl) (by kernel_rfl) (by kernel_rfl) (by kernel_rfl) (λ_ _ _ h=>h) (Or.inl ⟨by rfl,?_⟩) b ?_;rotate_left
   ·rintro X⟨o,p⟩;go_simp;try with_reducible rfl
   try simp only[Act.put,ab,ae,af]
   refine da (i:=2) (v:=?_) rfl rfl (by kernel_rfl) (by kernel_rfl) (by kernel_rfl) (by kernel_rfl) (λ_ _ _ h=>h) (Or.inl ⟨by rfl,?_⟩) b ?_;rotate_left
   ·rintro X⟨o,p⟩;go_simp;try with_reducible rfl
   try simp only[Act.put,ab,ae,af]
   refine da (i:=3) (v:=?_) rfl rfl (by kernel_rfl) (by kernel_rfl) (by kernel_rfl) (by kernel_rfl) (λ_ _ _ h=>h) (Or.inl ⟨by rfl,?_⟩) b ?_;rotate_left
   ·rintro X⟨o,p⟩;go_simp;try with_reducible rfl
   try simp only[Act.put,ab,ae,af]
   refine da (i:=4) (v:=?_) rfl rfl (by kernel_rfl) (by kernel_rfl) (by kernel_rfl) (by kernel_rfl) (λ_ _ _ h=>h) (Or.inl ⟨by rfl,?_⟩) b ?_;rotate_left
   ·rintro X⟨o,p⟩;go_simp;try with_reducible rfl
   try simp only[Act.put,ab,ae,af]
   refine da (i:=5) (v:=?_) rfl rfl (by kernel_rfl) (by kernel_rfl) (by kernel_rfl) (by kernel_rfl) (λ_ _ _ h=>h) (Or.inl ⟨by rfl,?_⟩) b ?_;rotate_left
   ·rintro X⟨o,p⟩;go_simp;try with_reducible rfl
   try simp only[Act.put,ab,ae,af]
   refine da (i:=6) (v:=?_) rfl rfl (by kernel_rfl) (by kernel_rfl) (by kernel_rfl) (by kernel_rfl) (λ_ _ _ h=>h) (Or.inl ⟨by rfl,?_⟩) b ?_;rotate_left
   ·rintro X⟨o,p⟩;go_simp;try with_reducible rfl
   try simp only[Act.put,ab,ae,af]
   refine da (i:=7) (v:=?_) rfl rfl (by kernel_rfl) (by kernel_rfl) (by kernel_rfl) (by kernel_rfl) (λ_ _ _ h=>h) (Or.inl ⟨by rfl,?_⟩) b ?_;rotate_left
   ·rintro X⟨o,p⟩;go_simp;try with_reducible rfl
   try simp only[Act.put,ab,ae,af]
   refine da (i:=8) (v:=?_) rfl rfl (by kernel_rfl) (by kernel_rfl) (by kernel_rfl) (by kernel_rfl) (λ_ _ _ h=>h) (Or.inl ⟨by rfl,?_⟩) b ?_;rotate_left
   ·rintro X⟨o,p⟩;go_simp;try with_reducible rfl
   try simp only[Act.put,ab,ae,af]
   refine da (i:=10) (v:=?_) rfl rfl (by kernel_rfl) (by kernel_rfl) (by kernel_rfl) (by kernel_rfl) (λ_ _ _ h=>h) (Or.inl ⟨by rfl,?_⟩) b ?_;rotate_left
   ·rintro X⟨o,p⟩;go_simp;try with_reducible rfl
   try simp only[Act.put,ab,ae,af]
   refine da (i:=11) (v:=?_) rfl rfl (by kernel_rfl) (by kernel_rfl) (by kernel_rfl) (by kernel_rfl) (λ_ _ _ h=>h) (Or.inl ⟨by rfl,?_⟩) b ?_;rotate_left
   ·rintro X⟨o,p⟩;go_simp;try with_reducible rfl
   try simp only[Act.put,ab,ae,af]
   refine da (i:=12) (v:=?_) rfl rfl (by kernel_rfl) (by kernel_rfl) (by kernel_rfl) (by kernel_rfl) (λ_ _ _ h=>h) (Or.inl ⟨by rfl,?_⟩) b ?_;rotate_left
   ·rintro X⟨o,p⟩;go_simp;try with_reducible rfl
   try simp only[Act.put,ab,ae,af]
   refine da (i:=13) (v:=?_) rfl rfl (by kernel_rfl) (by kernel_rfl) (by kernel_rfl) (by kernel_rfl) (λ_ _ _ h=>h) (Or.inl ⟨by rfl,?_⟩) b ?_;rotate_left
   ·rintro X⟨o,p⟩;go_simp;try with_reducible rfl
   try simp only[Act.put,ab,ae,af]
   refine da (i:=14) (v:=?_) rfl rfl (by kernel_rfl) (by kernel_rfl) (by kernel_rfl) (by kernel_rfl) (λ_ _ _ h=>h) (Or.inl ⟨by rfl,?_⟩) b ?_;rotate_left
   ·rintro X⟨o,p⟩;go_simp;try with_reducible rfl
   try simp only[Act.put,ab,ae,af]
   refine aI (i:=9) rfl rfl (by kernel_rfl) ?_;intro K9 cl;go_simp;refine bg.mono ?_;rintro cj n⟨v3,rfl,bn,bd⟩;obtain⟨x3,c3,fs⟩:=aC bn;subst fs;have G:I (λ_=>False) j n:=(bS (λ_=>False) j).trans (I.aR (S:=λ_=>False) bd) (λ_ c=>c.elim);have A:n.cell? ⟨d,0,none⟩=some (.map (some K'.nb))/\n.cell? ⟨f.lM,0,none⟩=some (.slice fz f.bytes.length fx):=⟨G.cell (by rw[aQ]at k0;exact k0) id ba,G.cell (by rw[aQ]at kd;exact kd) id fe⟩;refine cl _ _ (λ_=>A) ?_;try simp only[Act.put,ab,ae,af]
   refine da (i:=15) (v:=?_) rfl rfl (by kernel_rfl) (by kernel_rfl) (by kernel_rfl) (by kernel_rfl) (λ_ _ _ h=>h) (Or.inl ⟨by rfl,?_⟩) A ?_;rotate_left
   ·rintro X⟨o,p⟩;go_simp;try with_reducible rfl
   try simp only[Act.put,ab,ae,af]
   refine aI (i:=16) rfl rfl (by kernel_rfl) ?_;intro gr ad;go_simp;have ee:=G.size;refine ad _ _ (λ_=>⟨by rw[dE (by omega)];exact A.1,by rw[dE (by omega)];exact A.2⟩) ?_;try simp only[Act.put,ab,ae,af]
   obtain⟨W4,B⟩:∃W4,n.alloc (.cells #[.slice x3 f.bytes.length c3,.int .i64 f.bytes.length] 122)=W4:=⟨_,rfl⟩;rw[B];have bp:I (λ_=>False) j W4:=by rw[<-B];exact G.alloc _
   have ea:W4.heap[n.heap.size]?=some (.cells #[.slice x3 f.bytes.length c3,.int .i64 f.bytes.length] 122 (0,0)):=by rw[<-B];exact az _ rfl
   have eb:W4.ownsRow j.drew.heap.size 5 1 (.slice x3 f.bytes.length c3) f.bytes.length (f.bytes.map (Value.int .u8)):=by rw[<-B];exact aM bn _
   have D:=(Y a).now.ay bp id;refine aI (i:=17) rfl rfl (by kernel_rfl) ?_;intro gs al;try simp only[av,am,ap]
   refine uX (.tmp 24) (.tmp 25) (.tmp 37) 70 rfl 9 118 underlying70 underlying9 K'.nb _ rfl D f.name (.pointer (some ⟨n.heap.size,0,none⟩)) rfl rfl ?_;intro L P bk ef;refine al _ _ (λc=>(c rfl).elim) ?_;refine cr (by kernel_rfl) ?_ _;show KK _ _;refine cm _ _ ?_;have bc:f.name∉K'.files.map bY.name:=by
    have hp:=(Y HP).map (λ(hd:aa×List Int)=>hd.1);have E:=hp.nodup_iff.2 (Y HN);rw[aN,gE]at E;intro hc;refine E.2.2 f.name ?_ f.name ?_ rfl
    ·simpa[vw]using hc
    ·simp[vw]
   have C:=El bc;rw[yN C]at P;have R:I (λk=>k=K'.nb) j L:=(bp.mono (T:=λk=>k=K'.nb) (λ_ c=>c.elim)).trans (I.bz (S:=λk=>k=K'.nb) bk (by rintro k⟨⟩;exact .inl rfl)) (λ_ c=>.inl c);have eu:d≠K'.nb:=nt (Y a).now (Y a).fN;have gt:d≠K'.sb:=nt (Y a).safe (Y a).fN;have bl:L.heap[d]?=j.heap[d]?:=R.block d ba eu;have y0:L.drew.cell? ⟨d,0,none⟩=some (.map (some K'.nb)):=by rw[aQ,aj (bl.trans (Y a).fN)];rfl
   have y1:L.drew.cell? ⟨d,1,none⟩=some (.map (some K'.sb)):=by rw[aQ,aj (bl.trans (Y a).fN)];rfl
   have F:eC L K'.sb K'.sm:=(Y a).safe.ay R (λcj=>(Y a).ne cj.symm);have dv:=Ek (v:=.pointer (some ⟨n.heap.size,0,none⟩)) C;have bb:eC L.drew K'.nb (K'.files.map bY.nm++[(f.name,.pointer (some ⟨n.heap.size,0,none⟩))]):=P.ay (bS (λ_=>False) L) id;have s:eC L.drew K'.sb K'.sm:=F.ay (bS (λ_=>False) L) id;obtain⟨j0,ex,fd,ey,fb⟩:=bK pR;clear ey fb;have eq:=Z R;have ca:=Z ea;have O:=Z eb;have en:=Z P;have ek:=Z bk;have cd:=Z s;have el:=Z dv;have cc:=Z (bj ee ef);clear dv C bc ee ef cm cl ad al b A k0 kd bn bd bg D P bk F s bl ea eb R bp G B;go_wp2_with fail
   have cp:=bj y0 (bj y1 bb);clear y0 y1 bb;refine bM (λX=>X.cell? ⟨d,0,none⟩=some (.map (some K'.nb))/\X.cell? ⟨d,1,none⟩=some (.map (some K'.sb))/\eC X K'.nb (K'.files.map bY.nm++[(f.name,.pointer (some ⟨n.heap.size,0,none⟩))])) 11 (by kernel_rfl) ?_;refine cz 0 ?_;iterate 10 (refine cy (v:=?_) cp rfl (by kernel_rfl) (λ_ _ _ h=>h) (Or.inl ⟨by rfl,?_⟩) ?_;rotate_left;(focus(rintro X⟨o,p,z2⟩;go_simp;try with_reducible rfl));simp only[Act.put,Nat.reduceAdd,ab,ae,af,av,am,ap])
   refine dG ?_;refine da (i:=10) (v:=.pointer (some ⟨n.heap.size,0,none⟩)) rfl rfl (by kernel_rfl) (by kernel_rfl) (by kernel_rfl) (by kernel_rfl) (λ_ _ _ h=>h) (Or.inl ⟨by rfl,?_⟩) cp ?_
   ·rintro X⟨o,p,z2⟩;have bi:=pL underlying70 underlying9 ex fd z2 f.name;rw[Y el]at bi;simp only[gg]at bi;clear o p z2;go_simp;try with_reducible rfl
   simp only[Act.put,ab,ae,af,av,am,ap];refine aI (i:=11) rfl rfl (by kernel_rfl) ?_;intro gn ck;try simp only[av,am,ap]
   refine uX (.tmp 41) (.tmp 42) (.tmp 48) 70 rfl 9 118 underlying70 underlying9 K'.sb _ rfl (Y cd) f.name (.pointer (some ⟨n.heap.size,0,none⟩)) rfl rfl ?_;intro w6 dT dn fr;refine ck _ _ (λc=>(c rfl).elim) ?_;refine cr (by kernel_rfl) ?_ _;have U:I (λk=>k=K'.sb) L w6:=(bS (λk=>k=K'.sb) L).trans (I.bz (S:=λk=>k=K'.sb) dn (by rintro k⟨⟩;exact .inl rfl)) (λ_ c=>.inl c);have m:I (λk=>k=K'.nb\/k=K'.sb) j w6:=((Y eq).mono (T:=λk=>k=K'.nb\/k=K'.sb) (λ_ c=>.inl (.inl c))).trans U (λ_ c=>.inl (.inr c));have H:I (λk=>k=K'.nb\/k=K'.sb) W4 w6:=((I.bz (S:=λk=>k=K'.nb\/k=K'.sb) (Y ek) (by rintro k⟨⟩;exact .inl (.inl rfl)))).trans U (λ_ c=>.inl (.inr c));have t:=Z (show j.heap.size<=n.heap.size/\True from⟨(Y cc).1,trivial⟩);have gc:=(Y a).lt K'.nb (.inr (.inl rfl));have ge:=(Y a).lt K'.sb (.inr (.inr (.inl rfl)));have bs:=Z ((Y a).add (f:=⟨f.name,n.heap.size,.slice x3 f.bytes.length c3,f.bytes,f.bytes.length⟩) (Y HM) m ((Y en).ay U (λcj=>(Y a).ne cj)) dT ⟨(H.block _ (ak (Y ca)) (λc=>by have:=(Y t).1;rcases c with c|c<;>omega)).trans (Y ca),gI (H.own (Y O) (λk l c=>by have:=((Y O).lt k l).1;have cj:j.drew.heap.size=j.heap.size:=rfl;rcases c with c|c<;>omega)) (aU _),(Y ej).2.2⟩ (Y t).1 (λk l=>((Y O).lt k l).1));have ch:=Z ((Y y).trans m (λk c=>by
    have h1:=((Y g) K'.nb (.inr (.inl rfl))).1;have h2:=((Y g) K'.sb (.inr (.inr (.inl rfl)))).1;rcases c with c|c
    ·exact .inr (by omega)
    ·exact .inr (by omega)))
   have fL:ac.nb<V.heap.size:=(Y HD).lt ac.nb (.inr (.inl rfl));have bx:=Z ((Y w).kept (m.block _ (by have:=(Y y).size;omega) (λc=>by
    have h1:=((Y g) K'.nb (.inr (.inl rfl))).1;have h2:=((Y g) K'.sb (.inr (.inr (.inl rfl)))).1;rcases c with c|c<;>omega)) (m.block _ (Y w).lt (λc=>by
     have h1:=((Y g) K'.nb (.inr (.inl rfl))).2;have h2:=((Y g) K'.sb (.inr (.inr (.inl rfl)))).2;rcases c with c|c<;>omega)))
   clear dT dn fr U m H;go_wp2;go_roundw;case rel=>
    obtain⟨fk,bi⟩:=Y bs;refine⟨gj++gk,{K' with files:=K'.files++[⟨f.name,n.heap.size,.slice x3 f.bytes.length c3,f.bytes,f.bytes.length⟩],sm:=K'.sm.put f.name (.pointer (some ⟨n.heap.size,0,none⟩))},?_,Y HM,fk,?_,?_,λhe hg=>(Y HL) he ?_,Y ch⟩
    ·refine List.Perm.trans ?_ (Y HP);show List.Perm (vw (K'.files++[⟨f.name,n.heap.size,.slice x3 f.bytes.length c3,f.bytes,f.bytes.length⟩])++vw (gj++gk)) (vw K'.files++vw (gj++f::gk));simp only[vw,aN,aY,df,aV,iZ];exact mN _ jy.symm
    ·intro k l;have bd:=(Y t).1;have ha:=(Y y).size;have gA:=(Y w).lt;rcases bi k l with c|c|c
     ·exact(Y g) k c
     ·have:k=n.heap.size:=c;exact⟨by omega,by omega⟩
     ·have:=((Y O).lt k c).1;have cj:j.drew.heap.size=j.heap.size:=rfl;exact⟨by omega,by omega⟩
    ·rw[aN];exact Y bx
    ·simp only[aw,aD]at hg|-;exact hg.imp id .inr
   case measure=>rw[(Y bx).left_eq,(Y bT).left_eq];simp
end Go.Proofs.YtophdnlmpfmeiaaGreatDoor
