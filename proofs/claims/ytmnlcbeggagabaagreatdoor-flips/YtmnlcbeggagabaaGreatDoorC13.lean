import Derived.Test.YtmnlcbeggagabaaGreatDoorC10
import Derived.Test.YtmnlcbeggagabaaGreatDoorC11
open _root_ renaming List.length→y,Option.some→H,Array.size→z,Go.World.heap→G,Go.Value.ownBlock→cz,Go.World.cell?→aS,Go.World.setCell→cA,Go.World.alloc→cG,Bool.false→bj,Bool.true→ci,Nat→M,Int→U,List→cS,Go.Calls→cD,Go.undef→ix,Go.Proofs.Tryz.prog→aZ,Go.Value.slice→J,Go.Value.string→am,Go.Value.bool→aK,Go.Value.pointer→dF,Go.Value.tuple→dd,Go.Value.agg→dD
namespace Go.Proofs.YtmnlcbeggagabaaGreatDoor
open ChangeShapes WideShapes RowKit Proofs.Tryz List
set_option maxHeartbeats 16000000
set_option linter.all false
set_option maxRecDepth 100000
variable{a f B:Z}{b c g m x O:M}{d u P:ab}{e N:cI}{i:DK}{l:dJ}{n V:dN}{X:eT}{A:iF}{C:ml}
def CN{e cut f i:U}(h:lB a b (dF none) e cut f i c g m d C):cD aZ 173 #[aA b] a λl k=>l=aJ (aK bj)/\k=a:=by
 have j:=cellAt h.box 0 rfl;clear h;go_in
 go_wp2;go_ret;simp_all
def BD(l:Addr){e cut f i:U}(h:lB a b (dF<|H l) e cut f i c g m d C):cD aZ 173 #[aA b] a λn k=>n=aJ (aK ci)/\k=a:=by
 have j:=cellAt h.box 0 rfl;clear h;go_in
 go_wp2;go_ret;simp_all
def DV(a cut b c:U):ab:=dD #[aE a,dh cut,dh b,dh c]
def Hj{c:Func}{p:Tmp}(m:c.results=#[.cell p 188])(a:Array ab)(w:Z)(g:M)(e f h i:U)(t:TypeId)(d:M×M)(l:a.getD p ix=aA g)(j:w.heap[g]?=H (ay #[aE e,dh f,dh h,dh i] t d)):(results c a).run aZ w=.ok (DV e f h i) w:=by
 have b:a[p]?.getD ix=aA g:=by simpa using l
 have k:=kj (P:=aZ) w g t 188 #[aE e,dh f,dh h,dh i] d _ j underlying188 rfl (by kernel_rfl);simp[results,m,b,asAddr,k,DV]
def Tg{e cut f i:U}(h:lB a b d e cut f i c g m u C):cD aZ 223 #[aA b] a λq p=>q=aJ (DV e cut f i)/\Below (z<|G a) a p:=by
 have j:=cellAt h.box 1 rfl;have k:=cellAt h.box 2 rfl;have l:=cellAt h.box 3 rfl;have n:=cellAt h.box 4 rfl;have o:=ar h.box;clear h;go_in
 go_wp2;refine cg (Hj rfl _ _ (z<|G a) e cut f i _ _ rfl<|aH _ rfl) rfl ?_;exact⟨rfl,(Below.refl _ a).alloc (ai _) _⟩
theorem wy(c:M)(m:ab)(u:M)(f:u<18446744073709551616)(cut d i:U)(l e b:M)(g:ab)(p:ml)(h:lB a c m u cut d i l e b g p)(k:Pow a):cD aZ 107 #[aA c] a λr q=>r=aJ (am<|gu u)/\Below (z<|G a) a q:=by
 have n:=cellAt h.box 1 rfl;have o:=AO u f k;clear h k;go_in
 go_wp2_with(go_at_call 148;refine o.mono ?_;rintro r s⟨rfl,j⟩;have HB:=Y j;clear j)
 go_ret;exact⟨rfl,HB⟩
def RH{j cut n u:U}(q i Ap d:M)(o:pV)(h:lB a b (dF none) j cut n u c g m (aY q i Ap d) C)(x:o.pos+o.size<=Ap)(Q:Ap<=d)(A:0<o.size)(S:Ap<=1000000000000):cD aZ 310 #[aA b,o.value] a λK F=>K=aJ (dd #[aY q (i+o.pos) o.size (d-o.pos:M),.nilIface])/\Below (z<|G a) a F:=by
 obtain⟨pos,e,f,first,k⟩:=o;simp only at x A;unfold pV.value;simp only;have r:=ar h.box;have l:Below (z<|G a) a (cG a<|ay #[aq pos,aq e,aq f,am first,am k] 331):=(Below.refl _ a).alloc (ai _) _;have t:=CN<|h.below l h.lt.1 h.lt.2;have D:aS (cG a<|ay #[aq pos,aq e,aq f,am first,am k] 331) (R b 6)=H (aY q i Ap d):=by rw[pt _ _ _ r,bV h.box];rfl
 have v:∀(x:Bool)(a:Z),(Op.unary .not<|aK x).run aZ a=.ok (aK<|!x) a:=λ_ _=>rfl;obtain⟨s,E⟩:∃s,pos+e=s:=⟨_,rfl⟩;have L:(pos:U)+(e:U)=(s:U):=by omega
 have N:IntKind.i64.wrap (s:U)=(s:U):=by rw[bS];omega
 have O:pos<s:=by omega
 have P:s<=Ap:=by omega
 have p:=Y (show e=s-pos by omega);have HB:=Y l;clear h l E;go_in
 go_wp2_with(go_at_call 173;refine t.mono ?_;rintro K T⟨rfl,rfl⟩)
 go_quiet(fail)
 go_wp2;go_ret2
 have w:=af p;have B:=af HB;subst w;exact⟨rfl,below_drewN B _⟩
def I.of_heap{a b c:Z}(h:I X a b)(j:(c.os,c.tape,c.output,c.heap)=(b.os,b.tape,b.output,b.heap)):I X a c:=by
 obtain⟨e,g,i,d⟩:c.os=b.os/\c.tape=b.tape/\c.output=b.output/\c.heap=b.heap:=by simpa using j
 exact⟨e.trans h.os,g.trans h.tape,i.trans h.output,by rw[d];exact h.size,λk b j=>by rw[d];exact h.block k b j⟩
def cR(S:eT)(w:Z):I S w w.drew:=⟨rfl,rfl,rfl,ai _,λ_ _ _=>rfl⟩
def je(S:eT)(w:Z)(q:M):I S w (w.drewN q):=⟨rfl,rfl,rfl,ai _,λ_ _ _=>rfl⟩
def cH.SY(h:cH a b i){k:Array ab}{t:TypeId}{l:M×M}(e:a.heap[c]?=H (ay k t l))(n:t≠72)(r:t≠109)(s:t≠164)(o:t≠78)(u:t≠5):¬i.aO b c:=by
 rintro(rfl|rfl|rfl|f|⟨x,p,f⟩|⟨q,j,rfl|f⟩);exact ld e h.iy n rfl;exact h.now.tag e rfl;exact h.safe.tag e rfl;obtain⟨d,g⟩:=fR h.steps f;grind
 obtain⟨d,m,g⟩:=(h.each x p).2.2 c f;grind
 exact ld e (h.files q j).1 o rfl;obtain⟨d,g⟩:=fR (h.files q j).2.1 f;grind
def Od(an:g<18446744073709551616){cut v av:U}(K:pV)(aU:cX)(h:lB a b (aA c) g cut v av m x O d C)(hd:cH a c i)(hg:mS i.files (gu g)=H aU)(hl:y aU.bytes<=1099511627776)(h1:K.pos+K.size<=y aU.bytes)(h3:0<K.size)(hp:Pow a):cD aZ 310 #[aA b,K.value] a λaF q=>∃aD f j,aF=aJ (dd #[aY aD f K.size j,.nilIface])/\K.size<=j/\Bytes q (aY aD f K.size j) ((aU.bytes.drop K.pos).take K.size)/\I (i.aO c) a q/\∃r,cH q c r/\r.files=i.files/\r.dM=i.dM/\∀K,r.aO c K->i.aO c K:=by
 obtain⟨pos,e,n,first,w⟩:=K;simp only at h1 h3;unfold pV.value;simp only;have bh:=ar h.box;have o:Below (z<|G a) a (cG a<|ay #[aq pos,aq e,aq n,am first,am w] 331):=(Below.refl _ a).alloc (ai _) _;have k:=h.below o h.lt.1 h.lt.2;have ao:=BD (R c 0) k;have bd:∀(bf:Bool)(a:Z),(Op.unary .not<|aK bf).run aZ a=.ok (aK<|!bf) a:=λ_ _=>rfl;have N:=cellAt k.box 0 rfl;obtain⟨l,s⟩:∃l,l=cG a (ay #[aq pos,aq e,aq n,am first,am w] 331):=⟨_,rfl⟩;have A:BC l (z<|G a) ⟨pos,e,n,first,w⟩:=by rw[s];exact aH _ rfl
 have au:z (G l)=z (G a)+1:=by rw[s];simp
 have E:b<z (G l):=by omega
 rw[<-s]at o k ao N;have aa:aS l (R (z<|G a) 0)=H (aq pos):=A.cells.1;have ac:aS l (R (z<|G a) 1)=H (aq e):=A.cells.2.1;have X:Pow l:=hp.ap (S:=az) (I.aQ o)<|λV=>V;have W:cH l c i:=hd.ap (S:=az) (I.aQ o)<|λ_ _ V=>V;have HN:=Y (show∀ax,ax.heap=l.heap->cD aZ 107 #[aA b] ax λaF q=>aF=aJ (am<|gu g)/\Below (z<|G ax) ax q fromλax Q=>wy b (aA c) g an cut v av m x O d C ⟨by rw[Q];exact k.box,λj bf e=>by rw[da (w:=l)<|by rw[Q]];exact k.cells j bf e,k.ne,k.le,k.small⟩<|X.di<|by rw[Q]);have al:¬i.aO c b:=hd.SY h.box (by decide) (by decide) (by decide) (by decide) (by decide);have P:¬i.aO c (z<|G a):=λV=>by have:=hd.lt _ V;omega
 have HR:=Y (show∀ax,Below (z<|G l.drew) l.drew ax->cD aZ 97 #[aA c,am<|gu g,aq pos,aq e] ax λaF q=>∃aD f j,aF=aJ (dd #[aY aD f e j,.nilIface])/\(aS q (R b 0)=H (aA c)/\aS q (R (z<|G a) 0)=H (aq pos)/\aS q (R (z<|G a) 1)=H (aq e))/\(e<=j/\Bytes q (aY aD f e j) ((aU.bytes.drop pos).take e)/\I (i.aO c) a q/\∃r,cH q c r/\r.files=i.files/\r.dM=i.dM/\∀K,r.aO c K->i.aO c K)fromλax bb=>by
  have Q:I az l ax:=(cR _ l).bW<|I.aQ (S:=az) bb;have ba:=W.ap Q<|λ_ _ V=>V;apply(AV (gu g) aU pos e ba hg hl (by omega)<|by omega).mono;rintro aF q⟨v',rfl,ho,r,D,e1,e2,e3⟩;have u:y ((aU.bytes.drop pos).take e)=e:=by simp;omega
  have L:=ho.bytes;have B:I (i.aO c) l q:=(Q.mono (T:=i.aO c) cC).trans D.ap<|λ_ V=>.inl V;rcases L.shape with⟨_,h0⟩|⟨aD,f,j,rfl,ad⟩
  .rw[h0]at u;grind
  .rw[u]at ad L;exact⟨aD,f,j,by rw[u],⟨B.cell N al E,B.cell aa P (by omega),B.cell ac P (by omega)⟩,ad,L,(I.aQ (S:=i.aO c) o).trans B (λ_ V=>.inl V),r,D.ok,e1,e2,e3⟩)
 obtain⟨HB,HW,HZ,bg⟩:=fX o s au A;have F:z (G a)<z (G l):=by omega
 clear h o hd hg hl h1 hp k X W A au s al P;go_in
 go_wp2_with(go_at_call 173;rw[<-(af HW)];refine ao.mono ?_;rintro aF w1⟨rfl,bc⟩;subst bc)
 go_region_held3(λd=>aS d (R b 0)=H (aA c)/\aS d (R (z<|G a) 0)=H (aq pos)/\aS d (R (z<|G a) 1)=H (aq e)) (first|assumption|go_keep) (first
  |(go_at_call 107;go_loud(refine(HN w1.drew rfl).mono ?_;rintro aF w2⟨rfl,t⟩;have bi:aS w2 (R b 0)=H (aA c)/\aS w2 (R (z<|G a) 0)=H (.int .i64 pos)/\aS w2 (R (z<|G a) 1)=H (.int .i64 e):=⟨(t.cell (p:=(R b 0)) E).trans (by rw[bH];exact N),(t.cell (p:=(R (z<|G a) 0)) F).trans (by rw[bH];exact aa),(t.cell (p:=(R (z<|G a) 1)) F).trans (by rw[bH];exact ac)⟩;have aV:=Y t;clear t))
  |(go_at_call 97;go_loud(refine(HR w2 aV).mono ?_;rintro aF w3⟨aD,f,j,rfl,bk,r1⟩;have R1:=Y r1;clear r1)))
 go_wp2;go_ret2
 exact⟨aD,f,j,rfl,R1⟩
def dw(a:dJ):dN:=(a.map<|λc=>gy<|eZ c).flatten
theorem fC(a:dN):y (gy a)=y a+4:=by simp[gy,bU]
theorem oK(c:cI)(a:dJ):dw (c::a)=gy (eZ c)++dw a:=by simp[dw]
theorem ID(b a:dJ):dw (b++a)=dw b++dw a:=by simp[dw]
def Ch(a:dJ)(i:M)(h:i<y a):dw a=dw (a.take i)++(gy (eZ a[i])++dw (a.drop<|i+1)):=by
 grind[take_append_drop,drop_eq_getElem_cons,ID,oK]
def zb(a:dJ)(b:dN)(i:M)(h:i<y a):((dw a++b).drop<|y<|dw<|a.take i).take (y (eZ a[i])+4)=gy (eZ a[i]):=by
 rw[Ch a i h,bz,sk,bz,<-fC,py]
def IC(a:dJ)(i:M)(h:i<y a):y (dw<|a.take i)+(y (eZ a[i])+4)<=y (dw a):=by
 rw[Ch a i h];simp[fC]
structure tg(ks:ml)(cs:dJ):Prop where
 len:y ks=y cs
 ne:0<y cs
 DG:∀i(hi:i<y ks)(hc:i<y cs),ks[i].Of cs[i]
 pos:∀i(hi:i<y ks),ks[i].pos=y (dw<|cs.take i)
 iH:∀c∈cs,∀x∈c,x.Good
 mh:dK cs.flatten
 Cw:cs.Pairwise gS
 small:∀c∈cs,y c<=1000
def Bytes.same{V:iL}{n0:M}{S:eT}(h:Bytes a d n)(i:kw V n0 S a f)(j:∀k,cz d=H k->k<n0/\¬V.F k):Bytes f d n:=by
 rcases h with⟨rfl,rfl⟩|⟨l,b,c,rfl,e,g⟩;exact .inl ⟨rfl,rfl⟩;exact .inr ⟨l,b,c,rfl,e,λk h=>i.cell (.inr<|j l rfl)<|g k h⟩
def mV.WT(V:iL)(q e:M)(i cut l C:U)(s m g j b a:M)(h:ml)(d:dJ)(P:Z)(K:lB P e (dF none) i cut l C s m g (aY j b (y<|dw d) a) h)(k:tg h d)(W:Bytes P (aY j b (y<|dw d) a) (dw d))(w:y (dw d)<=a)(A:y (dw d)<=1000000000000)(D:e<q/\¬V.F e)(E:s<q/\¬V.F s)(Q:j<q/\¬V.F j)(B:Steps P)(x:1<q/\¬V.F 1):mV V q e h d P where
 mem:=⟨_,_,_,_,_,_,_,_,_,K,D,E⟩
 len:=k.len
 DG:=k.DG
 iH:=k.iH
 mh:=k.mh
 Cw:=k.Cw
 small:=k.small
 steps:=B
 zx:=x
 bytes:=by
  intro r F t aa L T;have O:=k.DG r F t;have c:=k.pos r F;have u:=IC d r t;refine(RH j b (y<|dw d) a h[r] (K.same L D E) (by rw[c,O.size];exact u) w (by rw[O.size];omega) A).mono ?_;rintro ad W'⟨rfl,f⟩;refine⟨j,b+h[r].pos,a-h[r].pos,_,rfl,by rw[c,O.size];omega,?_,.inl rfl,V.eQ T (I.aQ (S:=az) f) cC,I.aQ f⟩;have o:Bytes aa (aY j b (y<|dw d) a) (dw d):=W.same L (λac v=>by cases v;exact Q);have X:=o.Bq (n:=h[r].pos) (by rw[c];omega);have N:=Bytes.take (bs:=(dw d).drop h[r].pos) (n:=h[r].size) (by simpa using X) (by simp;rw[c,O.size];omega);have p:=zb d [] r t;rw[dO,<-c,<-O.size]at p;rw[p]at N;refine N.below f<|λac v=>?_;cases v;have hx:=o.lt (bs:=dw d) (by grind) j rfl;exact hx
def OL(a:Prop)(b:M)(e:cS cX)(dM:cS (ab×cS Mv))(F:eT):iL where
 Xp:=a
 D W:=(∀k,F k->k<z (G W))/\∃K,cH W b K/\K.files=e/\K.dM=dM/\∀k,K.aO b k->F k
 F:=F
 eQ:=by
  rintro w l S⟨f,K,g,h,i,c⟩d j;exact⟨λk a=>ah (f k a) d.size,K,g.ap d<|λk a b=>j k b<|c k a,h,i,c⟩
 lt:=by
  grind
def mV.OA(j:Prop)(V:M)(fs:cS cX)(dM:cS (ab×cS Mv))(T:eT)(s a ac:M)(hu:ac<18446744073709551616)(cut f P:U)(u k e:M)(w:ab)(r:ml)(c:dJ)(Q:cX)(t:dN)(ad:Z)(L:lB ad a (aA V) ac cut f P u k e w r)(d:tg r c)(hf:mS fs (gu ac)=H Q)(n:y Q.bytes=y (dw c++t))(D:∀i(h:i<y c),(Q.bytes.drop<|y<|dw<|c.take i).take (y (eZ c[i])+4)=gy (eZ c[i])\/j/\ui ((Q.bytes.drop<|y<|dw<|c.take i).take<|y (eZ c[i])+4))(E:y Q.bytes<=1099511627776)(x:a<s/\¬T a)(A:u<s/\¬T u)(O:Steps ad)(N:1<s/\¬T 1)(q:Pow ad)(p:2<s/\¬T 2):mV (OL j V fs dM T) s a r c ad where
 mem:=⟨_,_,_,_,_,_,_,_,_,L,x,A⟩
 len:=d.len
 DG:=d.DG
 iH:=d.iH
 mh:=d.mh
 Cw:=d.Cw
 small:=d.small
 steps:=O
 zx:=N
 bytes:=by
  rintro i hi h ax hs⟨K,av,hK,W,e2,X⟩;have aa:=d.DG i hi h;have b:=d.pos i hi;have al:=IC c i h;refine(Od hu r[i] Q (L.same hs x A) hK (by rw[W];exact hf) E (by rw[b,aa.size,n,ag];omega) (by rw[aa.size];omega)<|q.di<|hs.2 _<|.inl p).mono ?_;rintro au W'⟨ao,g,v,rfl,F,C,ht,K',B,f1,f2,f3⟩;refine⟨ao,g,v,_,rfl,F,C,?_,⟨λS o=>ah (K S o) ht.size,K',B,f1.trans W,f2.trans e2,λS o=>X S<|f3 S o⟩,ht.mono<|λS o=>.inl<|X S o⟩;have m:=D i h;rw[<-b,<-aa.size]at m;refine m.imp id<|λan=>⟨an.1,an.2,?_,?_,λW2 l=>?_⟩
  .rw[dj,gX,n,ag,b,aa.size];omega
  .have:=xg<|d.iH _<|ak h;have:=d.small _<|ak h;rw[aa.size];omega
  .refine(wy a _ ac hu _ _ _ _ _ _ _ r (L.same l x A)<|q.di<|l.2 _<|.inl p).mono ?_;rintro au W3⟨rfl,C⟩;exact⟨_,rfl,C⟩
def QK:(prog.info? 331).map (λi=>(i.zero,i.size,i.bytes))=H (H<|dD #[aq 0,aq 0,aq 0,am ⟨#[]⟩,am ⟨#[]⟩],5,56):=by kernel_rfl
def Ob(w:Z)(x a b u v:ab)(t:TypeId):∀j q,[x,a,b,u,v][j]?=H q->aS (cG w<|ay #[x,a,b,u,v] t) (((R (z<|G w) 0):Addr).add j)=H q:=by
 intro j q c;rw[dt];simp_all
def I.fy(h:eC a f d u):I (λk=>cz d=H k) a f:=I.dW h.grown<|λ_ e=>.inl e
def eG.ap{w w':Z}{b:M}{t:TypeId}{S:eT}(h:eG w b d t)(c:I S w w')(a:¬S b):eG w' b d t:=(c.block b (ar h) a).trans h
def io(w:Z)(b i:M)(u:ab):I (λk=>k=b) w (cA w (R b i) u):=(I.refl (λk=>k=b) w).setCell b i u<|.inl rfl
structure lF(W:Z)(base bl bd bp bk bf bt:M)(lv dv pv kv:ab)(fr to:M)(ds ps:dN)(ks:ml):Prop where
 l:eG W bl lv 88
 d:eG W bd dv 75
 p:eG W bp pv 75
 k:eG W bk kv 261
 f:eG W bf (aq fr) 3
 t:eG W bt (aq to) 3
 od:eE W base dv ds
 op:eE W base pv ps
 ok:W.ownsRow base 331 5 kv (y ks) (ez ks)
 ne:∀x,cz dv=H x->cz pv≠H x
 ord:bl<bd/\bd<bp/\bp<bk/\bk<bf/\bf<bt/\bt<base
 size:base<=z (G W)
def EA(a:ml)(k:pV):ez (a++[k])=ez a++k.cells:=by simp[ez]
def lF.jz{e k i l bk j m:M}{h:ab}(o:lF a e k i l bk j m d u P h b c n V C)(p:g<e):¬(cz u=H g)/\¬(cz P=H g)/\¬(cz h=H g):=⟨λf=>by have:=(o.od.lt g f).1;omega,λf=>by have:=(o.op.lt g f).1;omega,λf=>by have:=(bK o.ok g f).1;omega⟩
def ke(h:a.ownsRow b c g d m A)(f:x<b):(cA a (R x O) u).ownsRow b c g d m A:=(io a x O u).own h (λk e i=>by have:=(bK h k e).1;omega)
def lF.kd{e l j m bk k o:M}{h:ab}(i:lF a e l j m bk k o d u P h b c n V C):(∀x,cz h=H x->cz u≠H x)/\(∀x,cz h=H x->cz P≠H x):=by
 constructor;intro x p g;obtain⟨c1,q⟩:=fR i.ok p;obtain⟨c2,r⟩:=fR i.od g;grind
 intro x p g;obtain⟨c1,q⟩:=fR i.ok p;obtain⟨c2,r⟩:=fR i.op g;grind
def lF.piece{e o m j bk n p:M}{s g:ab}{q A ps1:dN}(h:lF a e o m j bk n p d u P s b c q A C)(i:I (λr=>cz P=H r) a f)(x:cz g=cz P\/∃v,cz g=H v/\z (G a)<=v)(w:eE f e g ps1):lF (cA f (R j 0) g) e o m j bk n p d u g s b c q ps1 C:=by
 have D:=h.ord;refine⟨(h.l.ap i (h.jz<|by omega).2.1).other _ (by omega),(h.d.ap i (h.jz<|by omega).2.1).other _ (by omega),(h.p.ap i (h.jz<|by omega).2.1).set _,(h.k.ap i (h.jz<|by omega).2.1).other _ (by omega),(h.f.ap i (h.jz<|by omega).2.1).other _ (by omega),(h.t.ap i (h.jz<|by omega).2.1).other _ (by omega),ke (i.own h.od<|λr l=>h.ne r l) (by omega),ke w (by omega),ke (i.own h.ok<|λr l=>h.kd.2 r l) (by omega),λE l k=>?_,D,by rw[gN];exact aB h.size i.size⟩;rcases x with t|⟨v,t,B⟩;exact h.ne E l<|t▸k;rw[t]at k;cases k;have:=(h.od.lt _ l).2;omega
def lF.blocks{e m k o bk l p:M}{r i:ab}{v ks1:ml}(h:lF a e m k o bk l p d u P r b c n V v)(g:I (λq=>cz r=H q) a f)(t:f.ownsRow e 331 5 i (y ks1) (ez ks1)):lF (cA f (R bk 0) i) e m k o bk l p d u P i b c n V ks1:=by
 have w:=h.ord;exact⟨(h.l.ap g (h.jz<|by omega).2.2).other _ (by omega),(h.d.ap g (h.jz<|by omega).2.2).other _ (by omega),(h.p.ap g (h.jz<|by omega).2.2).other _ (by omega),(h.k.ap g (h.jz<|by omega).2.2).set _,(h.f.ap g (h.jz<|by omega).2.2).other _ (by omega),(h.t.ap g (h.jz<|by omega).2.2).other _ (by omega),ke (g.own h.od<|λq s j=>h.kd.1 q j s) (by omega),ke (g.own h.op<|λq s j=>h.kd.2 q j s) (by omega),ke t (by omega),h.ne,w,by rw[gN];exact aB h.size g.size⟩
def lF.data{e n k o bk m p:M}{r g:ab}{v ds1 s:dN}(h:lF a e n k o bk m p d u P r b c v s C)(i:I (λq=>cz u=H q) a B)(A:cz g=cz u\/∃w,cz g=H w/\z (G a)<=w)(x:eE B e g ds1):lF (cA B (R k 0) g) e n k o bk m p d g P r b c ds1 s C:=by
 have E:=h.ord;refine⟨(h.l.ap i (h.jz<|by omega).1).other _ (by omega),(h.d.ap i (h.jz<|by omega).1).set _,(h.p.ap i (h.jz<|by omega).1).other _ (by omega),(h.k.ap i (h.jz<|by omega).1).other _ (by omega),(h.f.ap i (h.jz<|by omega).1).other _ (by omega),(h.t.ap i (h.jz<|by omega).1).other _ (by omega),ke x (by omega),ke (i.own h.op<|λq l j=>h.ne q j l) (by omega),ke (i.own h.ok<|λq l=>h.kd.1 q l) (by omega),λK l j=>?_,E,by rw[gN];exact aB h.size i.size⟩;rcases A with t|⟨w,t,D⟩;exact h.ne K (t▸l) j;rw[t]at l;cases l;have:=(h.op.lt _ j).2;omega
def lF.fin{e j i g bk f k:M}{l:ab}(h:lF a e j i g bk f k d u P l b c n V C):lF (cA (cA a (R g 0) aw) (R f 0)<|aq c) e j i g bk f k d u aw l c c n [] C:=by
 have o:=h.ord;exact⟨(h.l.other _<|by omega).other _ (by omega),(h.d.other _<|by omega).other _ (by omega),(h.p.set _).other _ (by omega),(h.k.other _<|by omega).other _ (by omega),(h.f.other _<|by omega).set _,(h.t.other _<|by omega).other _ (by omega),ke (ke h.od<|by omega) (by omega),eE.nil _ _,ke (ke h.ok<|by omega) (by omega),(λx _ m=>by cases m),o,by rw[gN,gN];exact h.size⟩
def lF.YT{e j i g bk f k:M}{l:ab}(h:lF a e j i g bk f k d u P l b c n V C):lF (cA (cA a (R f 0)<|aq c) (R g 0) aw) e j i g bk f k d u aw l c c n [] C:=by
 have o:=h.ord;exact⟨(h.l.other _<|by omega).other _ (by omega),(h.d.other _<|by omega).other _ (by omega),(h.p.other _<|by omega).set _,(h.k.other _<|by omega).other _ (by omega),(h.f.set _).other _ (by omega),(h.t.other _<|by omega).other _ (by omega),ke (ke h.od<|by omega) (by omega),eE.nil _ _,ke (ke h.ok<|by omega) (by omega),(λx _ m=>by cases m),o,by rw[gN,gN];exact h.size⟩
def lF.at{e m k o bk l j:M}{q:ab}(h:lF a e m k o bk l j d u P q c g n V C)(r:M):lF (cA a (R j 0)<|aq r) e m k o bk l j d u P q c r n V C:=by
 have s:=h.ord;exact⟨h.l.other _ (by omega),h.d.other _ (by omega),h.p.other _ (by omega),h.k.other _ (by omega),h.f.other _ (by omega),h.t.set _,ke h.od (by omega),ke h.op (by omega),ke h.ok (by omega),h.ne,s,by rw[gN];exact h.size⟩
def ug(a b:M)(c e d:ab)(x:M):Prop:=(a<=x/\x<=b)\/cz c=H x\/cz e=H x\/cz d=H x
def lF.low{e f k m bk l h:M}{i:ab}(j:lF a e f k m bk l h d u P i b c n V C):∀x,ug f h u P i x->f<=x:=by
 have o:=j.ord;rintro x(⟨g,_⟩|g|g|g);exact g;have:=(j.od.lt x g).1;omega;have:=(j.op.lt x g).1;omega;have:=(bK j.ok x g).1;omega
def lF.ap{W w':Z}{a l j m bk k o:M}{q:ab}(h:lF W a l j m bk k o d u P q c g n V C)(e:I az W w'):lF w' a l j m bk k o d u P q c g n V C:=⟨h.l.ap e id,h.d.ap e id,h.p.ap e id,h.k.ap e id,h.f.ap e id,h.t.ap e id,e.own h.od<|λ_ _ p=>p,e.own h.op<|λ_ _ p=>p,e.own h.ok<|λ_ _ p=>p,h.ne,h.ord,aB h.size e.size⟩
def lF.XG{e l p r bk q m:M}{o:ab}(i:lF a e l p r bk q m d u P o b c n V C)(g:I X a f)(h:∀k,ug l m u P o k->¬X k):lF f e l p r bk q m d u P o b c n V C:=by
 have j:=i.ord;exact⟨i.l.ap g<|h _<|.inl ⟨by omega,by omega⟩,i.d.ap g<|h _<|.inl ⟨by omega,by omega⟩,i.p.ap g<|h _<|.inl ⟨by omega,by omega⟩,i.k.ap g<|h _<|.inl ⟨by omega,by omega⟩,i.f.ap g<|h _<|.inl ⟨by omega,by omega⟩,i.t.ap g<|h _<|.inl ⟨by omega,by omega⟩,g.own i.od<|λk j=>h k<|.inr<|.inl j,g.own i.op<|λk j=>h k<|.inr<|.inr<|.inl j,g.own i.ok<|λk j=>h k<|.inr<|.inr<|.inr j,i.ne,i.ord,aB i.size g.size⟩
def lF.uI{e g k m bk l h:M}{j:ab}(i:lF a e g k m bk l h d u P j b c n V C):∀x,ug g h u P j x->x<z (G a):=by
 have p:=i.ord;have o:=i.size;rintro x(⟨_,f⟩|f|f|f);omega;exact(i.od.lt x f).2;exact(i.op.lt x f).2;exact(bK i.ok x f).2
def I.low(j:I X a f)(h:∀x,X x->b<=x)(k:c<b)(e:aS a (R c g)=H d):aS f (R c g)=H d:=j.cell e (λi=>by have:=h c i;omega)<|cW a (R c g) e
def kg{P:Program}{x:Oper}{w:Act}{aa:Act->Z->Prop}{ao:Exit->Act->Z->Prop}(al an:Operand)(A:TypeId)(o:x.op=Op.call {callee:=Callee.builtin Builtin.append,args:=#[al,an],argTypes:=#[A,A]})(b:M)(t:TypeId)(u:TypeInfo)(i:ab)(c bytes:M)(V:P.underlying A=H (.slice t))(N:P.info? t=H u)(X:u.zero=H i)(h:u.size=c)(n:u.bytes=bytes)(q:i.cells.size=c)(p:0<c)(C:ab)(v:M)(r:iF)(S:w.eval al=C)(j:a.ownsRow b t c C v r)(m:Addr)(s ac:M)(d:iF)(W:w.eval an=J (H m) s ac)(O:y d=s*c)(g:∀ad B,d[ad]?=H B->aS a (m.add ad)=H B)(D:∀B∈d,B.oneCell'=ci)(hn:v+s<=140737488355328)(e:(v+s)*bytes<=140737488355328)(f:b<=z (G a))(L:∀k l,l.ownsRow b t c k (v+s) (r++d)->eC a l C k->aa (w.put x.dst k) l):Oper.wp P x w a aa ao:=by
 obtain⟨k,l,Q,E,F,_,K⟩:=mX (P:=P) a b A x.type t u i c bytes V N X h n q p C v r j m s ac d O g D (by unfold maxLen;omega) e f;unfold Oper.wp;simp[execOp,o,resolve,invoke,builtin,S,W,Q,Result.andThen];exact L k l E<|eC.of F K
def sU(h:Bytes a (aY b c g m) n):∀j u,(n.map<|Value.int .u8)[j]?=H u->aS a (((R b c):Addr).add j)=H u:=by
 intro j u k;rw[dt];rcases h with⟨h,_⟩|⟨f,e,d,h,_,i⟩;cases h;grind
def VE{f x A p bk K r:M}(al e s bi:M)(t1:M)(X kl:ae)(h:lF a f x A p bk K r (aY al e bi s) d u P b c n V C)(hT:Steps a)(hg:al<x)(c0:aS a (R al<|e+b*4)=H (am X))(c1:aS a (R al<|e+t1*4)=H (am kl))(dx:b<bi)(ed:t1<bi)(cp:c=t1+1)(dT:b<=t1)(hL:bi<=1000000000)(dv:y n<=100000000000)(ec:y V<=100000)(ea:y C<=1000000000):cD aZ 216 #[aA p,aA bk,aA A,aA r,aA K,aA x] a λdb w'=>
 db=aJ (dd #[])/\(∃an aF,lF w' f x A p bk K r (aY al e bi s) an aw aF c c (n++gy V) [] (C++[⟨y n,y V+4,c-b,X,kl⟩])/\(∀F,cz an=H F->cz d=H F\/z (G a)<=F)/\(∀F,cz aF=H F->cz P=H F\/z (G a)<=F))/\I (ug x r d u P) a w':=by
 obtain⟨i0,ck,cw,cx,cB⟩:=cU QK
 obtain⟨j0,cl,cs,cu,cv⟩:=cU pL
 have dc:=h.ord
 have co:=h.size
 have bu:=Dl hT h.op co<|by omega
 obtain⟨O,N,ch⟩:=aC h.od
 obtain⟨S,Q,cn⟩:=aC h.ok
 subst ch
 subst cn
 have q1:=h.p.cell
 have q2:=h.p.free
 have B:=h.low
 have bl:=Y c0
 have bm:=Y c1
 obtain⟨Ly,bg⟩:∃Ly,c-b=Ly:=⟨_,rfl⟩
 rw[bg]
 have e1:(c:U)-(b:U)=(Ly:U):=by omega
 have e2:(c:U)-1=(t1:U):=by omega
 have e3:IntKind.i64.wrap (Ly:U)=(Ly:U):=by rw[bS];omega
 have e4:IntKind.i64.wrap (t1:U)=(t1:U):=by rw[bS];omega
 have e5:(b:U)<(bi:U):=by omega
 have e6:(t1:U)<(bi:U):=by omega
 have cc:=Y (show∀w w1,eE w1 f w (V++le 4 (kO V))->eC a w1 u w->∃pb j pc,w=aY pb j (y V+4) pc/\(aS w1 (R p 0)=H u/\w1.frozen? (R p 0)=bj)/\lF (cA w1 (R p 0) w) f x A p bk K r (aY al e bi s) (J O (y n) N) w (J S (y C) Q) b c n (V++le 4 (kO V)) C/\I (ug x r (J O (y n) N) u<|J S (y C) Q) a (cA w1 (R p 0) w)from by
  intro w w1 ao W;have t:y (V++le 4 (kO V))=y V+4:=by simp[bU]
  have aa:=h.p.ap (I.fy W) (h.jz<|by omega).2.1;have g:=h.piece (I.fy W) W.uj ao;have D:=((I.fy W).mono (T:=ug x r (J O (y n) N) u<|J S (y C) Q)<|λF E=>.inl<|.inr<|.inr<|.inl E).setCell p 0 w<|.inl<|.inl ⟨by omega,by omega⟩;rcases ao.bytes.shape with⟨_,h0⟩|⟨pb,j,pc,h0,h1⟩
  .rw[h0]at t;simp at t
  grind[eG.cell,eG.free])
 clear h hT c0 c1 cp bg
 go_in
 go_wp2_with(go_at_call 192;refine bu.mono ?_;rintro db w1⟨w,rfl,ao,W⟩;obtain⟨pb,j,pc,rfl,⟨ce,cj⟩,g,D⟩:=cc w w1 ao W;have bq:=Y g;have bp:=Y D;clear g D ao W)
 have g:=af bq
 have D:=af bp
 clear bq bp ce cj
 generalize cA w1 (R p 0) (aY pb j (y V+4) pc)=o at*
 clear bu q1 q2
 have k0:aS o (R al<|e+b*4)=H (am X):=D.low B hg bl
 have k1:aS o (R al<|e+t1*4)=H (am kl):=D.low B hg bm
 have l1:=g.l.cell
 have l2:=g.d.cell
 have l3:=g.p.cell
 have l4:=g.k.cell
 have l5:=g.f.cell
 have l6:=g.t.cell
 have br:=Y (show∀(l:Obj)L m,m.ownsRow f 331 5 L (y C+1) (ez C++[aq<|y n,aq<|(y V:U)+4,aq Ly,am X,am kl])->eC (cG o l).drew m (J S (y C) Q) L->lF (cA m (R bk 0) L) f x A p bk K r (aY al e bi s) (J O (y n) N) (aY pb j (y V+4) pc) L b c n (V++le 4 (kO V)) (C++[⟨y n,y V+4,Ly,X,kl⟩])/\I (ug x r (J O (y n) N) u<|J S (y C) Q) a (cA m (R bk 0) L)/\(aS m (R al<|e+b*4)=H (am X)/\aS m (R al<|e+t1*4)=H (am kl)/\aS m (R x 0)=H (aY al e bi s)/\aS m (R A 0)=H (J O (y n) N)/\aS m (R p 0)=H (aY pb j (y V+4:M) pc)/\aS m (R K 0)=H (aq b)/\aS m (R r 0)=H (aq c))/\aS m (R bk 0)=H (J S (y C) Q)/\(aS (cA m (R bk 0) L) (R al<|e+b*4)=H (am X)/\aS (cA m (R bk 0) L) (R al<|e+t1*4)=H (am kl)/\aS (cA m (R bk 0) L) (R x 0)=H (aY al e bi s)/\aS (cA m (R bk 0) L) (R A 0)=H (J O (y n) N)/\aS (cA m (R bk 0) L) (R p 0)=H (aY pb j (y V+4:M) pc)/\aS (cA m (R bk 0) L) (R K 0)=H (aq b)/\aS (cA m (R bk 0) L) (R r 0)=H (aq c))/\m.frozen? (R bk 0)=bj/\(∀F,cz L=H F->cz (J S (y C) Q)=H F\/z (G a)<=F)from by
  intro l L m au ax;have t:I (λF=>cz (J S (y C) Q)=H F) o m:=(((I.refl _ o).alloc l).trans (cR _ _)<|λF E=>.inl E).trans (I.fy ax)<|λF E=>.inl E;have aa:=g.k.ap t (g.jz<|by omega).2.2;have k:=g.blocks (ks1:=C++[⟨y n,y V+4,Ly,X,kl⟩]) t (by rw[EA,ag];exact au);have bh:∀F,cz (J S (y C) Q)=H F->f<=F:=λF E=>(bK g.ok F E).1;have ac:I (ug x r (J O (y n) N) u<|J S (y C) Q) a (cA m (R bk 0) L):=(D.trans t<|λF E=>.inl<|.inr<|.inr<|.inr E).setCell bk 0 _<|.inl<|.inl ⟨by omega,by omega⟩;exact⟨k,ac,⟨t.low bh (by omega) k0,t.low bh (by omega) k1,(g.l.ap t (g.jz<|by omega).2.2).cell,(g.d.ap t (g.jz<|by omega).2.2).cell,(g.p.ap t (g.jz<|by omega).2.2).cell,(g.f.ap t (g.jz<|by omega).2.2).cell,(g.t.ap t (g.jz<|by omega).2.2).cell⟩,aa.cell,⟨ac.low B hg bl,ac.low B hg bm,k.l.cell,k.d.cell,k.p.cell,k.f.cell,k.t.cell⟩,aa.free,λF E=>by
   rcases ax.uj with db|⟨cT,db,hy⟩
   .grind
   .rw[db]at E;cases E;have h1:=D.size;have h2:z (G o)<z (G (cG o l).drew):=by simp_all
    grind⟩)
 have bo:=Y g.ok
 have dk:f<=z (G o):=g.size
 have b1:al<z (G o):=by omega
 have b2:x<z (G o):=by omega
 have b3:A<z (G o):=by omega
 have b4:p<z (G o):=by omega
 have b5:bk<z (G o):=by omega
 have b6:K<z (G o):=by omega
 have b7:r<z (G o):=by omega
 clear g D
 have hS:(aS o.drew (R al<|e+b*4)=H (am X)/\aS o.drew (R al<|e+t1*4)=H (am kl)/\aS o.drew (R x 0)=H (aY al e bi s)/\aS o.drew (R A 0)=H (J O (y n) N)/\aS o.drew (R p 0)=H (aY pb j (y V+4:M) pc)/\aS o.drew (R bk 0)=H (J S (y C) Q)/\aS o.drew (R K 0)=H (aq b)/\aS o.drew (R r 0)=H (aq c)):=⟨by rw[bH];exact k0,by rw[bH];exact k1,by rw[bH];exact l1,by rw[bH];exact l2,by rw[bH];exact l3,by rw[bH];exact l4,by rw[bH];exact l5,by rw[bH];exact l6⟩
 rename_i QQ KK bs
 refine dL (λl=>(aS l (R al<|e+b*4)=H (am X)/\aS l (R al<|e+t1*4)=H (am kl)/\aS l (R x 0)=H (aY al e bi s)/\aS l (R A 0)=H (J O (y n) N)/\aS l (R p 0)=H (aY pb j (y V+4:M) pc)/\aS l (R bk 0)=H (J S (y C) Q)/\aS l (R K 0)=H (aq b)/\aS l (R r 0)=H (aq c))) 22 (by kernel_rfl) ?_
 refine eR 0 ?_
 iterate 20 (refine iC (v:=?_) hS rfl (by kernel_rfl) ma rfl ?_ ?_;rotate_left;(focus(intro l hX;obtain⟨x0,x1,x2,x3,x4,x5,x6,x7⟩:=hX;go_simp;try rfl));simp only[Act.put,eF,Nat.reduceAdd])
 apply ig
 refine bC (i:=20) rfl rfl (by kernel_rfl) ?_
 intro dm ba
 go_simp
 refine ba _ _ (λ_=>?_) ?_
 .exact⟨by rw[bH,fo b1];exact k0,by rw[bH,fo b1];exact k1,by rw[bH,fo b2];exact l1,by rw[bH,fo b3];exact l2,by rw[bH,fo b4];exact l3,by rw[bH,fo b5];exact l4,by rw[bH,fo b6];exact l5,by rw[bH,fo b7];exact l6⟩
 refine bC (i:=21) rfl rfl (by kernel_rfl) ?_
 intro dn bb
 simp only[cQ,cq,cy]
 refine kg (.tmp 8) (.tmp 28) 261 rfl f 331 i0 (dD #[aq 0,aq 0,aq 0,am ⟨#[]⟩,am ⟨#[]⟩]) 5 56 underlying261 ck cw cx cB rfl (by decide) (J S (y C) Q) (y C) (ez C) rfl (ku (aX bo<|ay #[aq<|y n,aq<|(y V:U)+4,aq Ly,am X,am kl] 331) rfl) (R (z<|G o) 0) 1 1 [aq<|y n,aq<|(y V:U)+4,aq Ly,am X,am kl] rfl rfl (Ob _ _ _ _ _ _ _) (by simp[Value.oneCell']) (by omega) (by omega) (by simp;omega) ?_
 intro L m au ax
 obtain⟨k,ac,⟨s0,s1,s2,s3,s4,s6,s7⟩,s5,⟨z0,z1,z2,z3,z4,z6,z7⟩,bt,bd⟩:=br _ L m au ax
 obtain⟨bx,bv,cm⟩:=aC au
 subst cm
 refine bb _ _ (λ_=>⟨s0,s1,s2,s3,s4,s5,s6,s7⟩) ?_
 simp only[Act.put,eF]
 refine bC (i:=22) rfl rfl (by kernel_rfl) ?_
 intro ds bc
 go_simp
 refine bc _ _ Fc ?_
 refine eN (by kernel_rfl) ?_ _
 show KK _ _
 apply bs
 clear bs ba bb bc z0 z1 z2 z3 z4 z6 z7 s0 s1 s2 s3 s4 s5 s6 s7 bt au ax hS k0 k1 l1 l2 l3 l4 l5 l6 b1 b2 b3 b4 b5 b6 b7 br bo
 have aU:=Y bd
 clear bd
 generalize cA m (R bk 0) (J bx (y C+1) bv)=W3 at*
 generalize(J bx (y C+1) bv)=cM at*
 have l2:=k.d.cell
 have l3:=k.p.cell
 have cE:=k.size
 have bT:=Y k.od
 have bE:=Y k.op.bytes
 have eb:y (V++le 4 (kO V))=y V+4:=by simp[bU]
 have cd:=Y (show∀v4 w4,w4.ownsRow f 5 1 v4 (y n+(y V+4)) (n.map (Value.int .u8)++(V++le 4 (kO V)).map (Value.int .u8))->eC W3 w4 (J O (y n) N) v4->(aS w4 (R A 0)=H (J O (y n) N)/\w4.frozen? (R A 0)=bj)/\lF (cA w4 (R A 0) v4) f x A p bk K r (aY al e bi s) v4 (aY pb j (y V+4) pc) cM b c (n++gy V) (V++le 4 (kO V)) (C++[⟨y n,y V+4,Ly,X,kl⟩])/\I (ug x r (J O (y n) N) u<|J S (y C) Q) a (cA w4 (R A 0) v4)/\(∀F,cz v4=H F->cz (J O (y n) N)=H F\/z (G a)<=F)from by
  intro v4 w4 av aD;have t:=I.fy aD;have aa:=k.d.ap t (k.jz<|by omega).1;have bh:=k.data (ds1:=n++gy V) t aD.uj<|eE.of av (by rw[ag,fC]) (by unfold gy;rw[aR,aR,aR]);exact⟨⟨aa.cell,aa.free⟩,bh,(ac.trans t<|λF E=>.inl<|.inr<|.inl E).setCell A 0 _<|.inl<|.inl ⟨by omega,by omega⟩,λF E=>by
   grind[eC.uj,Nat.le_trans,I.size]⟩)
 clear k ac
 go_wp2_with(first
  |(at_builtin;go_loud(refine ct _ rfl (.tmp 30) (.tmp 31) 75 rfl f 5 j0 (.int .u8 0) 1 1 underlying75 cl cs cu cv rfl (by decide) _ (y n) (n.map (Value.int .u8)) rfl bT (R pb j) (y V+4) pc ((V++le 4 (kO V)).map (Value.int .u8)) rfl (by grind) (sU bE) (by intro ef hu;simp only[bM]at hu;obtain⟨cT,_,rfl⟩:=hu;rfl) (by omega) (by omega) cE ?_;intro v4 w4 av aD;obtain⟨⟨y0,y1⟩,q,ad,bf⟩:=cd v4 w4 av aD;obtain⟨x4,c4,rfl⟩:=aC av;have aV:=Y bf;clear bf;have cb:=Y q;have ca:=Y ad;clear av aD q ad)))
 have q:=af cb
 have ad:=af ca
 have y2:=q.p.cell
 have y3:=q.p.free
 have y4:=q.f.cell
 have y5:=q.f.free
 have y6:=q.t.cell
 have n1:K≠p:=by omega
 have n2:r≠p:=by omega
 have n3:r≠K:=by omega
 have bn:=Y (show∀t,(t=(cA (cA (cA w4 (R A 0)<|J x4 (y n+(y V+4)) c4) (R p 0) aw) (R K 0)<|aq c).drew\/t=(cA (cA (cA w4 (R A 0)<|J x4 (y n+(y V+4)) c4) (R K 0)<|aq c) (R p 0) aw).drew)->(∃an aF,lF t f x A p bk K r (aY al e bi s) an aw aF c c (n++gy V) [] (C++[⟨y n,y V+4,Ly,X,kl⟩])/\(∀F,cz an=H F->cz (J O (y n) N)=H F\/z (G a)<=F)/\(∀F,cz aF=H F->cz (J S (y C) Q)=H F\/z (G a)<=F))/\I (ug x r (J O (y n) N) u<|J S (y C) Q) a t from by
  rintro t(rfl|rfl)
  .exact⟨⟨_,_,q.fin.ap<|cR _ _,aV,aU⟩,((ad.setCell p 0 _<|.inl<|.inl ⟨by omega,by omega⟩).setCell K 0 _<|.inl<|.inl ⟨by omega,by omega⟩).trans (cR _ _)<|λF E=>.inl E⟩
  .exact⟨⟨_,_,q.YT.ap (cR _ _),aV,aU⟩,((ad.setCell K 0 _ (.inl (.inl ⟨by omega,by omega⟩))).setCell p 0 _ (.inl (.inl ⟨by omega,by omega⟩))).trans (cR _ _) (λF E=>.inl E)⟩)
 clear q ad
 go_region
 all_goals
  go_end0;refine⟨rfl,bn _ ?_⟩;grind
def Em(c:cI):ae:=(c[0]?.map E.key).getD ⟨#[]⟩
def KE(c:cI):ae:=(c[y c-1]?.map E.key).getD ⟨#[]⟩
def LF(p:M)(c:cI):pV:=⟨p,y (eZ c)+4,y c,Em c,KE c⟩
def bI:M->dJ->ml
 |_,[]=>[]
 |p,c::a=>LF p c::bI (p+(y (eZ c)+4)) a
def jN:∀(a:dJ)(p:M),y (bI p a)=y a
 |[],_=>rfl
 |c::a,p=>by rw[bI,aW,jN a,aW]
def Cn(c:cI):∀(a:dJ)(p:M),bI p (a++[c])=bI p a++[LF (p+y (dw a)) c]
 |[],p=>by simp[bI,dw]
 |d::a,p=>by
  rw[dl,bI,Cn c a,bI,dl,oK,ag,fC];grind
def zc:∀(a:dJ)(p i:M)(f:i<y (bI p a))(b:i<y a),(bI p a)[i]=LF (p+y (dw<|a.take i)) a[i]
 |[],_,i,_,b=>absurd b<|gC i
 |c::a,p,0,_,_=>by simp[bI,dw]
 |c::a,p,i+1,f,b=>by
  have e:i<y (bI (p+(y (eZ c)+4)) a):=by simpa[bI]using f
  have d:i<y a:=by simpa using b
  have h:=zc a (p+(y (eZ c)+4)) i e d;simp only[bI,cq,rC,oK,ag,fC];rw[h];grind
def Gt(h:0<y e):Em e=(e[0]'h).key:=by
 unfold Em;rw[aN h];rfl
def KD(h:0<y e):KE e=(e[y e-1]'(by omega)).key:=by
 unfold KE;rw[aN<|by omega];rfl
def Ux(h:0<y e)(p:M):(LF p e).Of e:=⟨h,rfl,rfl,Gt h,KD h⟩
def IA:∀(c:cI),y c<=y (eZ c)
 |[]=>by simp[eZ]
 |x::c=>by
  have:=IA c;unfold eZ at*;rw[dI,ag,aW];have:8<=y (Bp x):=by unfold Bp;rw[ag,bU];omega
  omega
structure pQ(l:cI)(cs:dJ):Prop where
 flat:cs.flatten=l
 fit:∀c∈cs,0<y c/\y (eZ c)+4<=512
 Cw:cs.Pairwise gS
def pQ.nN(h:pQ e l)(d:e≠[])(g:∀x∈e,x.Good)(j:dK e):tg (bI 0 l) l where
 len:=jN l 0
 ne:=by
  cases l with
  |nil=>exact absurd h.flat.symm<|by simpa using d
  |cons f l=>simp
 DG:=λi c a=>by
  rw[zc l 0 i c a];exact Ux (h.fit _<|ak a).1 _
 pos:=λi c=>by
  have a:i<y l:=by rw[jN]at c;exact c
  rw[zc l 0 i c a];simp[LF]
 iH:=λf a x c=>g x (by rw[<-h.flat];grind[mem_flatten])
 mh:=by rw[h.flat];exact j
 Cw:=h.Cw
 small:=λf a=>by
  have:=(h.fit f a).2;have:=IA f;omega
def pQ.length(h:pQ e l):y l<=y e:=by
 rw[<-h.flat];have:=h.fit;clear h;induction l with
 |nil=>simp
 |cons c l b=>
  have a:=(this c<|by simp).1;have f:=b (λd a=>this d<|by simp[a]);grind
def pQ.data(h:pQ e l):y (dw l)<=512*y l:=by
 have:=h.fit;clear h;induction l with
 |nil=>simp[dw]
 |cons c l b=>
  have a:=(this c<|by simp).2;have g:=b (λd a=>this d<|by simp[a]);rw[oK,ag,fC,aW];omega
def uH(k:pV):dN:=le 4 k.size++(le 4 k.count++(dZ k.first++dZ k.last))
def eO(a:ml):dN:=le 4 (y a)++a.flatMap uH
section
open Shelf
attribute [local go_sem] Oper.semAt_some
def NP(a:dJ)(c:cI):dw (a++[c])=dw a++gy (eZ c):=by simp[dw]
def OO{a:cI}(h:e.take b=N++a)(j:b<=y e){i:M}(g:i<y a):∃f:y N+i<y e,e[y N+i]=a[i]:=by
 have d:b=y N+y a:=by have:=bQ y h;grind
 refine⟨by omega,?_⟩;have c:(e.take b)[y N+i]'(by simp;omega)=(N++a)[y N+i]'(by simp;omega):=by simp only[h]
 rw[jY,sY<|by omega]at c;simpa using c
def OJ{g o r t bk s p:M}(D f n:M)(q:cI)(e:dJ)(c:cI)(T:lF a g o r t bk s p (aY D f (y q) n) d u P (y e.flatten) b (dw e) (eZ c) (bI 0 e))(V:Steps a)(X:D<o)(W:∀ac ad,(aI q)[ac]?=H ad->aS a (R D<|f+ac)=H ad)(hcut:q.take b=e.flatten++c)(F:b<=y q)(k:0<y c)(hl:y q<=1000000)(h:∀B∈e,0<y B/\y (eZ B)+4<=512)(C:y (eZ c)+4<=512):cD aZ 216 #[aA t,aA bk,aA r,aA p,aA s,aA o] a λaa A=>
 aa=aJ (dd #[])/\(∃l m,lF A g o r t bk s p (aY D f (y q) n) l aw m (y (e++[c]).flatten) b (dw<|e++[c]) (eZ []) (bI 0<|e++[c])/\(∀x,cz l=H x->cz d=H x\/z (G a)<=x)/\(∀x,cz m=H x->cz P=H x\/z (G a)<=x))/\I (ug o p d u P) a A:=by
 have j:b=y e.flatten+y c:=by
  have:=bQ y hcut;grind
 have v:y e<=y e.flatten:=by
  have:=h;clear T hcut j h;induction e with
  |nil=>simp
  |cons B e x=>
   have v:=(this B<|by simp).1;have E:=x (λO w=>this O<|by simp[w]);grind
 have E:y (dw e)<=512*y e:=by
  have:=h;clear T hcut j h v;induction e with
  |nil=>simp[dw]
  |cons B e x=>
   have v:=(this B<|by simp).2;have E:=x (λO w=>this O<|by simp[w]);rw[oK,ag,fC,aW];omega
 obtain⟨i1,Q⟩:=OO hcut F k
 obtain⟨i2,S⟩:=OO hcut F (i:=y c-1)<|by omega
 have N:=(eh q _ i1).1
 have c1:=(eh q _ i2).1
 rw[Q]at N
 rw[S]at c1
 have hb:=jN e 0
 refine(VE D f n (y q) (y e.flatten+(y c-1)) (Em c) (KE c) T V X ?_ ?_ (by omega) (by omega) (by omega) (by omega) (by omega) (by omega) (by omega)<|by omega).mono ?_
 .rw[Gt k];grind
 .rw[KD k];exact W _ _ c1
 .rintro aa A⟨rfl,⟨l,m,hv,hx⟩,ht⟩;refine⟨rfl,⟨l,m,?_,hx⟩,ht⟩;have K:y (e++[c]).flatten=b:=by rw[j];simp
  have L:bI 0 (e++[c])=bI 0 e++[⟨y<|dw e,y (eZ c)+4,b-y e.flatten,Em c,KE c⟩]:=by
   rw[Cn,j,uk,dr];rfl
  rw[K,L,NP];exact hv
def eE.base{c base':M}(h:eE a c d n)(e:base'<=c):eE a base' d n:=fM h e
def eE.WH(i:eE a b d n)(e:0<y n):∃g c h,d=aY g c (y n) h:=by
 rcases i.bytes.shape with⟨_,f⟩|⟨g,c,h,f,j⟩;rw[f]at e;simp at e;grind
structure Fq(w:Z)(lv:ab)(p:cI)(B:eT)(W:Z):Prop where
 ex:∃cs cur dv pv kv,lF W (z (G w)+8) (z<|G w) (z (G w)+1) (z (G w)+2) (z (G w)+3) (z (G w)+4) (z (G w)+5) lv dv pv kv (y cs.flatten) (y p) (dw cs) (eZ cur) (bI 0 cs)/\p=cs.flatten++cur/\(∀c∈cs,0<y c/\y (eZ c)+4<=512)/\y (eZ cur)+4<=512/\(cur=[]->p=[])/\(cs++[cur]).Pairwise gS/\∀k,B k↔ug (z<|G w) (z (G w)+5) dv pv kv k
 fn:eG W (z (G w)+6) (.func (.func 216) #[] #[aA<|z (G w)+2,aA<|z (G w)+3,aA<|z (G w)+1,aA<|z (G w)+5,aA<|z (G w)+4,aA<|z<|G w]) 1
 ap:I az w W
def Fq.lt(l:Fq a d e X B):∀k,X k->z (G a)<=k/\k<z (G B):=by
 obtain⟨i,g,j,n,m,h,_,_,_,_,_,c⟩:=l.ex;exactλk g=>⟨h.low k<|(c k).1 g,h.uI k<|(c k).1 g⟩
def Fq.stays{T:eT}(n:Fq a d e X f)(h:I T f B)(c:∀k,T k->¬X k/\z (G a)+7<=k):Fq a d e X B:=by
 obtain⟨l,b,m,v,u,t,o,p,q,r,s,i⟩:=n.ex;exact⟨⟨l,b,m,v,u,t.XG h<|λk g j=>(c k j).1<|(i k).2 g,o,p,q,r,s,i⟩,n.fn.ap h (λj=>by have:=(c _ j).2;omega),n.ap.trans h<|λk g=>.inr (by have:=(c k g).2;omega)⟩
def Oy{w W2 j w6:Z}{K h g i v6:ab}{p gg cur:cI}{cs:dJ}{B:eT}(e:lF j (z (G w)+8) (z<|G w) (z (G w)+1) (z (G w)+2) (z (G w)+3) (z (G w)+4) (z (G w)+5) K h g i (y cs.flatten) (y p) (dw cs) (eZ cur) (bI 0 cs))(N:eG j (z (G w)+6) (.func (.func 216) #[] #[aA<|z (G w)+2,aA<|z (G w)+3,aA<|z (G w)+1,aA<|z (G w)+5,aA<|z (G w)+4,aA<|z<|G w]) 1)(x:I az w j)(F:I B W2 j)(a:∀k,ug (z<|G w) (z (G w)+5) h g i k->B k\/z (G W2)<=k)(hcut:p=cs.flatten++cur)(m:∀c∈cs,0<y c/\y (eZ c)+4<=512)(t:y (eZ cur)+y (eZ gg)+4<=512)(n:0<y gg)(v:(cs++[cur]).Pairwise gS)(q:gS p gg)(O:w6.ownsRow (z (G w)+8) 5 1 v6 (y (eZ cur)+y (eZ gg)) ((eZ cur).map (Value.int .u8)++(eZ gg).map (Value.int .u8)))(C:eC j w6 g v6):(aS w6 (R (z (G w)+2) 0)=H g/\w6.frozen? (R (z (G w)+2) 0)=bj)/\(aS (cA w6 (R (z (G w)+2) 0) v6) (R (z (G w)+5) 0)=H (aq<|y p)/\(cA w6 (R (z (G w)+2) 0) v6).frozen? (R (z (G w)+5) 0)=bj)/\∃E,Fq w K (p++gg) E (cA (cA w6 (R (z (G w)+2) 0) v6) (R (z (G w)+5) 0)<|aq ((y p+y gg:M):U))/\I B W2 (cA (cA w6 (R (z (G w)+2) 0) v6) (R (z (G w)+5) 0)<|aq ((y p+y gg:M):U))/\∀k,E k->B k\/z (G W2)<=k:=by
 have d:=I.fy C;have l:=e.p.ap d (e.jz<|by omega).2.1;have f:=e.piece (ps1:=eZ<|cur++gg) d C.uj (eE.of O (by rw[xh,ag])<|by rw[xh,aR]);have A:=f.at (y p+y gg);have u:∀k,cz g=H k->z (G w)+8<=k:=λk o=>(e.op.lt k o).1;have b:I (ug (z<|G w) (z (G w)+5) h g i) j (cA (cA w6 (R (z (G w)+2) 0) v6) (R (z (G w)+5) 0)<|aq ((y p+y gg:M):U)):=((d.mono (T:=ug (z<|G w) (z (G w)+5) h g i)<|λk o=>.inl<|.inr<|.inr<|.inl o).setCell _ 0 _<|.inl<|.inl ⟨by omega,by omega⟩).setCell _ 0 _<|.inl<|.inl ⟨by omega,by omega⟩;refine⟨⟨l.cell,l.free⟩,⟨f.t.cell,f.t.free⟩,ug (z<|G w) (z (G w)+5) h v6 i,⟨⟨cs,cur++gg,h,v6,i,by rw[ag];exact A,by rw[hcut,bz],m,by rw[xh,ag];exact t,λc=>?_,?_,λk=>qH⟩,?_,?_⟩,F.trans b a,?_⟩;rw[my]at c;rw[c.2]at n;simp at n;obtain⟨Q,_,S⟩:=bP.1 v;refine bP.2 ⟨Q,by simp,λc L W P=>?_⟩;rw[dA.1 P];intro V D s r;rcases aG.1 r with r|r;exact S c L cur (by simp) V D s r;exact q V (by rw[hcut];grind[mem_append_left,mem_flatten]) s r
 .exact N.ap b (by
   rintro(⟨_,c⟩|c|c|c)
   .omega
   .have:=(e.od.lt _ c).1;omega
   .have:=u _ c;omega
   .have:=(bK e.ok _ c).1;omega)
 exact x.trans b<|λk o=>.inr<|e.low k o;rintro k(c|c|c|c);exact a k<|.inl c;exact a k<|.inr<|.inl c;rcases C.uj with r|⟨V,r,D⟩;exact a k<|.inr<|.inr<|.inl<|r▸c;rw[r]at c;cases c;exact .inr<|aB F.size D;exact a k<|.inr<|.inr<|.inr c
def DB(N b f:M)(hT:Steps a)(hg:N<z (G a))(hc:∀cM cm,(aI e)[cM]?=H cm->aS a (R N<|b+cM)=H cm)(cx:y e<=f)(ea:0<y e)(T:∀bg∈e,bg.Good)(hs:dK e)(c:∀N∈ic e,y N<=10)(hl:y e<=1000000):cD aZ 166 #[aY N b (y e) f] a λad w'=>∃dv kv q,ad=aJ (dd #[dv,kv])/\pQ e q/\eE w' (z<|G a) dv (dw q)/\w'.ownsRow (z<|G a) 331 5 kv (y q) (ez<|bI 0 q)/\I az a w':=by
 obtain⟨i0,bs,cc,cd,ce⟩:=cU pL;have ca:=hT.lt;have cw:=Ab (aY N b (y e) f) _ _ _ rfl;have hE:jU a (aY N b (y e) f) e:=⟨by rw[fH],.inr ⟨N,b,f,rfl,cx,hc⟩⟩;obtain⟨HT,HC,HG,co⟩:=fX hT hc T c;clear hT hc T c;refine(dS (n:=3)).1 ?_;refine callsIn_of_wp_marks func166 rfl trivial ?_ rfl;simp only[ntmps166,ga,aW,eD,Nat.reduceAdd,Nat.reduceSub,eX,eW,gd,fq,de,dl];have cB:=tY (P:=aZ) (w:=(cG (cG (cG (cG (cG (cG (cG a<|ay #[aY N b (y e) f] 88)<|ay #[aw] 75)<|ay #[aw] 75)<|ay #[aw] 261)<|ay #[aq 0] 3)<|ay #[aq 0] 3)<|ay #[.nilFunc] 1)) (b:=z (G a)+1+1+1+1+1+1) (u:=.nilFunc) (t:=1) (aH _<|by simp) (.func (.func 216) #[] #[aA<|z (G a)+1+1,aA<|z (G a)+1+1+1,aA<|z (G a)+1,aA<|z (G a)+1+1+1+1+1,aA<|z (G a)+1+1+1+1,aA<|z<|G a]) rfl;gi_wp2_with(refine⟨trivial,?_⟩;gi_at_call 159;refine(dS.2<|cw _).mono ?_;rintro ad w1⟨rfl,rfl⟩)
 clear cB;obtain⟨W0,j⟩:∃W0,(cG (cG (cG (cG (cG (cG (cG (cG a<|ay #[aY N b (y e) f] 88)<|ay #[aw] 75)<|ay #[aw] 75)<|ay #[aw] 261)<|ay #[aq 0] 3)<|ay #[aq 0] 3)<|ay #[.func (.func 216) #[] #[aA<|z (G a)+1+1,aA<|z (G a)+1+1+1,aA<|z (G a)+1,aA<|z (G a)+1+1+1+1+1,aA<|z (G a)+1+1+1+1,aA<|z<|G a]] 1)<|ay #[aY N b (y e) f] 88)=W0:=⟨_,rfl⟩;have eb:z (G W0)=z (G a)+8:=by rw[<-j];simp
 have cb:I az a W0:=by rw[<-j];exact(((((((cK az a).alloc _).alloc _).alloc _).alloc _).alloc _).alloc _).alloc _
 have cu:eG W0 (z (G a)+7) (aY N b (y e) f) 88:=by rw[<-j];exact aH _<|by simp
 have hA0:Fq a (aY N b (y e) f) (ie []) (ug (z<|G a) (z (G a)+5) aw aw aw) W0:=by refine⟨⟨[],[],aw,aw,aw,⟨?_,?_,?_,?_,?_,?_,eE.nil _ _,eE.nil _ _,cO _ _ _ _,(by simp[cz]),by omega,by omega⟩,rfl,by simp,by simp[eZ],λ_=>rfl,by simp,λk=>qH⟩,?_,cb⟩;rw[<-j];grind[eG.alloc,aH];rw[<-j];exact eG.alloc (eG.alloc (eG.alloc (eG.alloc (eG.alloc (eG.alloc (aH _<|by simp) _) _) _) _) _) _;rw[<-j];exact eG.alloc (eG.alloc (eG.alloc (eG.alloc (eG.alloc (aH _<|by simp) _) _) _) _) _;rw[<-j];exact eG.alloc (eG.alloc (eG.alloc (eG.alloc (aH _<|by simp) _) _) _) _;rw[<-j];exact eG.alloc (eG.alloc (eG.alloc (aH _<|by simp) _) _) _;rw[<-j];exact eG.alloc (eG.alloc (aH _<|by simp) _) _;rw[<-j];exact eG.alloc (aH _<|by simp) _
 rw[j];refine oN (m:=3) (arg:=Fo<|aY N b (y e) f) (V:=Am) (n0:=z<|G a) (gf:=211) (lb:=#[aA<|z (G a)+7]) (l:=nz 0<|ic e) (S:=λk=>k=z (G a)+7) ?geval (enters_of func211 (by kernel_rfl) rfl) (λ_=>rfl) (vr (z<|G a) 2 cu (hE.ap cb<|λk c=>⟨id,(show N=k by simpa[cz]using c)▸hg⟩) (λk c=>(show N=k by simpa[cz]using c)▸hg) (by omega)<|by omega) trivial (by omega) (λk c=>by omega) (λg bh ck=>Fq a (aY N b (y e) f) (ie g) bh ck) (λ_ _ _ _=>False) _ hA0 (λk c n=>by rcases n with⟨_,n⟩|n|n|n<;>first|omega|(simp[cz]at n)) (λg bh ck A=>A.lt) ?st (λ_ _ _ _ _ _ h=>h.elim) ?body ?done ?stop;case geval=>rfl
 (case st=>intro g bh ck r s A i hT;refine A.stays i<|λk c=>⟨(hT k c).1,?_⟩;rcases(hT k c).2 with n|n|n;omega;exact n.elim;omega);(case stop=>grind)
 case body=>
  rintro lr g⟨ch,i⟩bh ck dT bk bv W A _;obtain⟨hn,eg,c⟩:=Ii hs W;have bq:0<y i:=gB.2 c.ne;have dx:ch+y i+y eg=y e:=by rw[c.all,hn];simp;omega
  have Q:=An hE c.all c.ne;rw[<-hn]at Q;unfold Fo;unfold yL at Q|-;simp only at Q|-;have dc:y i<=10:=co i (by obtain⟨_,ei,ad⟩:=xQ _ _ _ _ _ W;rw[<-ad];simp);have bp:∀bg∈i,bg.Good:=λbg a=>HG bg (by rw[c.all];simp[a]);generalize f-ch=ef at*;obtain⟨HA,HK,HN⟩:=dz A c hn;clear A W c hn;gi_wp2;refine⟨I.refl _ _,λW2 bd=>?_⟩;have hA2:=HA.stays bd (λk c=>by grind);have bb:jU W2 (aY N (b+ch*4) (y i) ef) i:=Q.ap hA2.ap<|λk c=>(show N=k by simpa[cz]using c)▸⟨id,hg⟩;have bE:=DA bb (λk c=>(show N=k by simpa[cz]using c)▸ah hg hA2.ap.size) bp (by omega);obtain⟨q,d,dv,pv,kv,hv,hcut,u,x,L,v,hB⟩:=hA2.ex;have cv:0<y (eZ i)/\y (eZ i)<=350:=by
   have h1:=OK bp;have X:=IA i;omega
  obtain⟨px,pc,bT⟩:=aC hv.op;obtain⟨cl,hb⟩:∃cl,y (eZ i)=cl:=⟨_,rfl⟩;obtain⟨cn,ha⟩:∃cn,y (eZ d)=cn:=⟨_,rfl⟩;rw[hb]at cv;rw[ha]at bT x;obtain⟨HV,HF,aV,an,HB,D⟩:=kY hv hA2.fn hA2.ap bd hB hcut;obtain⟨E,cT,bi,Hb,Ha,dm⟩:=kY u L v hb ha bb;clear hA2 bb Q hv hcut u L v hB hb ha bd;subst bT;gi_wp2_with fail
  refine⟨trivial,(CallsIn.inRound lr<|dS.2 bE).mono ?_⟩;rintro ad C⟨b2,rfl,bc,o⟩;obtain⟨cp,K,cs,bm⟩:=bc.WH (by rw[af Hb];omega);rw[af Hb]at bm;subst bm;have l:=HV.ap o;have bo:=HF.ap o id;have y5:=l.p.cell;have y9:=bo.cell;obtain⟨al,aU,r⟩:=dz l bc o;clear l bo bc o bE;have ax:lr<z (G W2):=ah bv.1 an.size;have ds:z (G ck)<=z (G W2):=an.size;have bx:y (ie g)=ch:=HN.symm;by_cases db:(512:U)<(cn:U)+cl+4
  .have ao:0<y d:=by
    rcases gm (y d)with n|n
    .obtain rfl:=aP n;have:=af Ha;simp[eZ]at this;omega
    .exact n
   have av:=HK.all;have aa:I az a C:=aV.bW r;have t:=OJ N b f e q d al (HT.below (aa.below (ai _) cC) ca) hg (λcM cm hj=>aa.cell (HC cM cm hj) id hg) (by rw[av,bz,py];exact D) (by omega) ao hl E (by rw[af Ha];exact x);clear aa av;gi_wp2_with fail
   refine⟨trivial,(CallsIn.inRound lr<|dS.2<|Dk ((cn:U)+cl) _ (by omega)<|by omega).mono ?_⟩;rintro ad w4⟨rfl,cE⟩;subst w4;gi_wp2_with fail
   refine⟨trivial,(CallsIn.inRound lr<|dS.2 t).mono ?_⟩;rintro ad w5⟨rfl,⟨dn,ec,au,bn,bt⟩,X⟩;have s:∀k,ug (z<|G a) (z (G a)+5) dv (J px cn pc) kv k->bh k:=λk c=>(HB k).2 c;have br:=HV.uI;have bu:=HV.low;have bl:eE w5 (z<|G W2) (aY cp K cl cs) (eZ i):=X.own aU (λk c n=>by have:=br k n;have:=(aU.lt k c).1;omega);have bf:=au.size;have y6:=au.p.cell;have dk:=r.size;have v:=af bi;have aF:=Y<|sU bl.bytes;have ba:=Y (λ(v6:ab)(w6:Z)ho hw=>Oy (w:=a) (w6:=w6) (v6:=v6) (p:=ie g) (cs:=q++[d]) (cur:=[]) (gg:=i) (B:=bh) (W2:=W2) au ((HF.ap r id).ap X (by
    rintro(⟨_,n⟩|n|n|n)
    .omega
    .have:=(HV.od.lt _ n).1;omega
    .have:=(HV.op.lt _ n).1;omega
    .have:=(bK HV.ok _ n).1;omega))
    ((aV.bW r).trans X<|λk c=>.inr<|bu k c) ((r.mono cC).trans X<|λk c=>.inl<|s k c)
    (by
     rintro k(n|n|n|n)
     .exact .inl<|s k<|.inl n
     .rcases bn k n with ad|ad
      .exact .inl<|s k<|.inr<|.inl ad
      grind
     .simp[cz]at n
     .rcases bt k n with ad|ad
      .exact .inl<|s k<|.inr<|.inr<|.inr ad
      grind)
    (by rw[af D];simp) (by
     intro n hc;rcases aG.1 hc with hc|hc
     .exact E n hc
     grind[mem_singleton,af])
    (by rw[af Hb];simp[eZ];omega) bq (bP.2 ⟨v,by simp,λbg _ cj a=>by rw[dA.1 a];intro _ _ ed hz;cases hz⟩) HK.low ho hw)
   clear au bn bt X s br bu bl v t y5 y9;gi_wp2_with(first
    |(gi_at_builtin;refine eP _ rfl (.tmp 27) (.tmp 28) 75 rfl (z (G a)+8) 5 i0 (.int .u8 0) 1 1 underlying75 bs cc cd ce rfl (by decide) _ 0 ((eZ []).map (Value.int .u8)) rfl (cO _ _ _ _) (R cp K) cl cs ((eZ i).map (Value.int .u8)) rfl (by rw[df,af Hb,qT]) aF (by intro cm hu;simp only[bM]at hu;obtain⟨cj,_,rfl⟩:=hu;rfl) (by omega) (by omega) bf ?_;intro v6 w6 w ac;obtain⟨⟨y0,y1⟩,⟨y2,y3⟩,B2,hP,B,O⟩:=ba v6 w6 (by rw[af Hb];exact w) ac;obtain⟨x6,c6,rfl⟩:=aC w;simp only[dr]at y2 y3 hP B;rw[bx]at y2;have HP:=Y hP;have F:=Y B;have aD:=Y O;clear w ac hP B O))
   have e1:ie (g++[(ch,i)])=ie g++i:=sP _ _ _;have e2:((ch:U)+y i)=((y (ie g)+y i:M):U):=by omega
   rw[e2];refine⟨trivial,B2,?_,(an.mono<|λk c=>.inl<|.inr c).trans F<|λk c=>.inl<|.inl c,F.block lr ax bk,λk c=>(aD k c).imp_right<|λn=>by omega⟩;show Fq a _ (ie<|g++[(ch,i)]) B2 _;rw[e1];exact HP
  .have s:∀k,ug (z<|G a) (z (G a)+5) dv (J px cn pc) kv k->bh k:=λk c=>(HB k).2 c;have bf:=al.size;have aF:=Y<|sU aU.bytes;have ba:=Y<|λ(v6:ab)(w6:Z)ho hw=>Oy (w:=a) (w6:=w6) (v6:=v6) (p:=ie g) (cs:=q) (cur:=d) (gg:=i) (B:=bh) (W2:=W2) al (HF.ap r id) (aV.bW r) (r.mono cC) (λk c=>.inl<|s k c) D E (by rw[af Ha,af Hb];omega) bq bi HK.low ho hw;clear s y9;gi_wp2_with fail
   refine⟨trivial,(CallsIn.inRound lr<|dS.2<|Dk ((cn:U)+cl) _ (by omega)<|by omega).mono ?_⟩;rintro ad w4⟨rfl,cE⟩;subst w4;gi_wp2_with(first
    |(gi_at_builtin;refine eP _ rfl (.tmp 27) (.tmp 28) 75 rfl (z (G a)+8) 5 i0 (.int .u8 0) 1 1 underlying75 bs cc cd ce rfl (by decide) _ cn ((eZ d).map (Value.int .u8)) rfl (by have X:=al.op;unfold eE at X;rw[af Ha]at X;exact X) (R cp K) cl cs ((eZ i).map (Value.int .u8)) rfl (by rw[df,af Hb,qT]) aF (by intro cm hu;simp only[bM]at hu;obtain⟨cj,_,rfl⟩:=hu;rfl) (by omega) (by omega) bf ?_;intro v6 w6 w ac;obtain⟨⟨y0,y1⟩,⟨y2,y3⟩,B2,hP,B,O⟩:=ba v6 w6 (by rw[af Ha,af Hb];exact w) ac;obtain⟨x6,c6,rfl⟩:=aC w;rw[bx]at y2;have HP:=Y hP;have F:=Y B;have aD:=Y O;clear w ac hP B O))
   have e1:ie (g++[(ch,i)])=ie g++i:=sP _ _ _;have e2:((ch:U)+y i)=((y (ie g)+y i:M):U):=by omega
   rw[e2];refine⟨trivial,B2,?_,(an.mono<|λk c=>.inl<|.inr c).trans F<|λk c=>.inl<|.inl c,F.block lr ax bk,λk c=>(aD k c).imp_right<|λn=>by omega⟩;show Fq a _ (ie<|g++[(ch,i)]) B2 _;rw[e1];exact HP
 (case done=>intro X bh ck aF A F _ hK;obtain⟨q,d,dv,pv,kv,hv,hcut,u,x,L,v,hB⟩:=A.ex;rw[Aj]at hcut L hv;(have ao:0<y d:=by grind);have t:=OJ N b f e q d hv (HT.below (A.ap.below (ai _) cC) ca) hg (λcM cm hj=>A.ap.cell (HC cM cm hj) id hg) (by rw[bL];exact hcut) (ai _) ao hl u x;have s:¬ug (z<|G a) (z (G a)+5) dv pv kv X:=λn=>F<|(hB X).2 n;have HX:=Y (show∀C i r,lF C (z (G a)+8) (z<|G a) (z (G a)+1) (z (G a)+2) (z (G a)+3) (z (G a)+4) (z (G a)+5) (aY N b (y e) f) i aw r (y (q++[d]).flatten) (y e) (dw<|q++[d]) (eZ []) (bI 0<|q++[d])->I (ug (z<|G a) (z (G a)+5) dv pv kv) ck C->(∀bg,cz i=H bg->cz dv=H bg\/z (G ck)<=bg)->(∀bg,cz r=H bg->cz kv=H bg\/z (G ck)<=bg)->(eE C (z<|G a) i (dw<|q++[d])/\C.ownsRow (z<|G a) 331 5 r (y<|q++[d]) (ez<|bI 0<|q++[d]))/\I az a C/\C.heap[X]?=H (.deferred<|H [])/\cz i≠H X/\cz r≠H X from by intro C i r l o hd c;have h1:=l.ok;rw[jN]at h1;have K:=ar hK;exact⟨⟨l.od.base (by omega),fM h1<|by omega⟩,A.ap.trans o<|λk c=>.inr<|hv.low k c,(o.block X K s).trans hK,λn=>by rcases hd X n with ad|ad;exact s<|.inr<|.inl ad;omega,λn=>by rcases c X n with ad|ad;exact s<|.inr<|.inr<|.inr ad;omega⟩);have av:=A.fn.cell;have HP:=Y<|show pQ e (q++[d])from⟨by rw[hcut];simp,λn hc=>by grind,v⟩;clear A hcut u L v hB hv F s ao;generalize q++[d]=au at*;(gi_wp2_with fail);refine⟨trivial,(dS.2 t).mono ?_⟩;rintro ad C⟨rfl,⟨i,r,l,O,Q⟩,o⟩;have z1:=l.d.cell;have z2:=l.k.cell;obtain⟨⟨w,B⟩,W,D,ax,aD⟩:=HX C i r l o O Q;obtain⟨x4,c4,rfl⟩:=aC w;obtain⟨x5,c5,rfl⟩:=aC B;obtain⟨aa,ac,al,an⟩:=fX w B W D;have K:=ar D;clear l o w B W D O Q av t hK;(gi_wp2_with fail);refine rX.2 ?_;(go_quiet(fail));gi_wp2;refine⟨by simp,.inl ⟨_,_,rfl,run_takeDeferred an,?_⟩⟩;refine⟨_,uQ rfl _ _ _,?_⟩;have E:=(je (λk=>k=X) C nq).trans (gZ (C.drewN nq) X<|.deferred none)<|λ_ h=>.inl h;exact⟨_,_,au,rfl,HP,E.own aa<|λk c n=>ax (by rw[<-n];exact c),E.own ac<|λk c n=>aD (by rw[<-n];exact c),al.trans E<|λk c=>.inr<|by omega⟩)
end
structure GK(w0 w:Z)(x:M)(k:pV)(o:ab)(bs:dN):Prop where
 own:eE w (z<|G w0) o bs
 box:BC w x k
 ne:cz o≠H x
 ap:I az w0 w
def GK.wrote{m:pV}(h:GK a f b m d n)(c:eC f B d u)(i:eE B (z<|G a) u V):GK a B b m u V:=by
 have g:=ar h.box;refine⟨i,h.box.ap (I.dW (S:=λj=>cz d=H j) c.grown<|λ_ e=>.inl e) h.ne,λe=>?_,h.ap.trans (I.dW (S:=λj=>cz d=H j) c.grown<|λ_ e=>.inl e)<|λj e=>.inr (h.own.lt j e).1⟩;rcases c.uj with l|⟨k,l,o⟩;exact h.ne<|l.symm.trans e;grind
def GK.size{k:pV}(h:GK a B c k d n):z (G a)<=z (G B):=h.ap.size
structure pV.Fits(k:pV):Prop where
 size:k.size<=1000000
 count:k.count<=1000000
 first:k.first.size<=255
 last:k.last.size<=255
def KU{k:pV}(h:k.Fits):y (uH k)<=520:=by
 have:=h.first;have:=h.last;simp[uH,dZ,bU,gY];omega
def kR{ks:ml}(h:∀k∈ks,k.Fits):y (ks.flatMap uH)<=520*y ks:=by
 induction ks with
 |nil=>simp
 |cons k ks b=>
  have a:=KU (h k<|by simp);have c:=b (λj a=>h j<|by simp[a]);rw[dI,ag,aW];omega
def sA{n:U}(a:0<=n)(b:n<4294967296):IntKind.u32.wrap n=n:=by rw[IntKind.wrap_u32];omega
def Hk(a:ml)(E f k:M)(w:Z)(hb:E<z (G w))(hc:∀L al,(ez a)[L]?=H al->aS w (R E<|f+L)=H al)(hl:y a<=1000000)(o:∀V∈a,V.Fits):cD aZ 221 #[aY E f (y a) k] w λK w'=>∃v',K=aJ v'/\eE w' (z<|G w) v' (eO a)/\I az w w':=by
 have u:=jq (baseqq:=z<|G w) (v:=aw) (bs:=[]) (y a:M) (w:=w) (eE.nil _ _) (ai _) (by simp) (by omega) (by omega);have e0:=sA (n:=(y a:M)) (by omega) (by omega);have HC:=Y hc;have X:=Y o;clear hc o;go_in
 go_wp2_with(go_at_call 191;refine u.mono ?_;rintro K w1⟨v1,rfl,g,i⟩;have N:=Y g;have O:=Y i;clear g i)
 go_loopw [3,12] (λo i wr=>∃n:M,n<=y a/\i=aq n/\eE wr (z<|G w) o (le 4 (y a)++(a.take n).flatMap uH)/\I az w wr) (λ_ i _=>y a-(intOf i).toNat)
 case atStart=>exact⟨0,bG _,rfl,by simpa using af N,I.dW (S:=az) O.grown (by intro V o;simp[cz]at o)⟩
 (case round=>obtain⟨n,hn,rfl,c,e⟩:=hrel;have ad:=e.size;by_cases l:n<y a;(.have m:∀L ac,L<5->(pV.cells a[n])[L]?=H ac->aS wr (R E<|f+n*5+L)=H ac:=λL ac b c=>e.cell (by rw[bF];exact HC _ _<|(iw a n L l b).trans c) (λd=>d) hb;have t:=X a[n]<|ak l;(have aa:y (le 4 (y a)++(a.take n).flatMap uH)<=600000000:=by have h1:=kR (ks:=a.take n)<|λV o=>X V<|dU o;grind[length_append,bU]);have HS:=Y (show(le 4 (y a)++(a.take n).flatMap uH)++uH a[n]=le 4 (y a)++(a.take<|n+1).flatMap uH from by rw[bz,aj l,fV];simp);generalize a[n]=V at*;generalize le 4 (y a)++(a.take n).flatMap uH=F at*;obtain⟨pos,d,b,first,j⟩:=V;have p0:=m 0 _ (by omega) rfl;have p1:=m 1 _ (by omega) rfl;have p2:=m 2 _ (by omega) rfl;have p3:=m 3 _ (by omega) rfl;have p4:=m 4 _ (by omega) rfl;clear m;simp only[lq]at p0 p1 p2 p3 p4;have f1:=t.size;have f2:=t.count;have f3:=t.first;have f4:=t.last;simp only at f1 f2 f3 f4;have e1:=sA (n:=(d:M)) (by omega) (by omega);have e2:=sA (n:=(b:M)) (by omega) (by omega);have hA:GK w (cG wr<|ay #[aq pos,aq d,aq b,am first,am j] 331) (z<|G wr) ⟨pos,d,b,first,j⟩ u3 F:=⟨c.alloc _,aH _ rfl,λK=>by have:=(c.lt _ K).2;omega,e.alloc _⟩;have W:=Y hA;clear c e t hA;(go_wp2_with fail);refine(jq (d:M) W.own (by simp;omega) (by omega) (by omega)<|by omega).mono ?_;rintro K w1⟨v1,rfl,g,i⟩;have hA1:=W.wrote i g;obtain⟨k0,k1,k2,k3,k4⟩:=hA1.box.cells;simp only at k0 k1 k2 k3 k4;have P:=hA1.size;have p:=Y hA1;clear hA1 g i;(go_wp2_with fail);refine(jq (b:M) p.own P (by rw[ag,bU];omega) (by omega)<|by omega).mono ?_;rintro K w2⟨v2,rfl,v,B⟩;have hA2:=p.wrote B v;obtain⟨m0,m1,m2,m3,m4⟩:=hA2.box.cells;simp only at m0 m1 m2 m3 m4;have Q:=hA2.size;have q:=Y hA2;clear hA2 v B;(go_wp2_with fail);refine(oU (z<|G w) v2 ((F++le 4 d)++le 4 b) first _ q.own Q (by rw[ag,ag,bU,bU];omega) f3).mono ?_;rintro K w3⟨v3,rfl,x,C⟩;have hA3:=q.wrote C x;obtain⟨q0,q1,q2,q3,q4⟩:=hA3.box.cells;simp only at q0 q1 q2 q3 q4;have T:=hA3.size;have r:=Y hA3;clear hA3 x C;(go_wp2_with fail);refine(oU (z<|G w) v3 (((F++le 4 d)++le 4 b)++(first.size:U)::kM first) j _ r.own T (by grind[length_append,bU,length_cons,gY]) f4).mono ?_;rintro K w4⟨v4,rfl,A,D⟩;have hA4:=r.wrote D A;have s:=Y hA4;clear hA4 A D;go_wp2;go_roundw;(case rel=>refine⟨n+1,l,by go_num,?_,s.ap⟩;rw[<-af HS];have:=s.own;simpa[uH,dZ]using this);case measure=>simp[intOf];omega);(have b:n=y a:=by omega);subst b;rw[bL]at c;have d:=Y c;have j:=Y e;clear c e;go_wp2;go_ret;exact⟨_,rfl,d,j⟩)
