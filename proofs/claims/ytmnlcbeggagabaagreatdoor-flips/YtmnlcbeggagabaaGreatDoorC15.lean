import Derived.Test.YtmnlcbeggagabaaGreatDoorC12
import Derived.Test.YtmnlcbeggagabaaGreatDoorC13
open _root_ renaming List.length→y,Option.some→H,Array.size→z,Go.World.heap→G,Go.Value.ownBlock→cz,Go.World.cell?→aS,Go.World.setCell→cA,Go.World.alloc→cG,Bool.false→bj,Bool.true→ci,Nat→M,Int→U,List→cS,Go.Calls→cD,Go.Proofs.Tryz.prog→aZ,Go.Value.slice→J,Go.Value.string→am,Go.Value.bool→aK,Go.Value.tuple→dd,Go.Value.agg→dD
namespace Go.Proofs.YtmnlcbeggagabaaGreatDoor
open ChangeShapes WideShapes RowKit Proofs.Tryz List
set_option maxHeartbeats 16000000
set_option linter.all false
set_option maxRecDepth 100000
variable{a f:Z}{b c g:M}{i L:DK}{k:U}{n:dN}{o:SR}{v:ae}{C:ml}
structure pV.Can(k:pV):Prop where
 size:k.size<=512
 c1:1<=k.count
 c2:k.count<=100
 f1:1<=k.first.size
 f8:k.first.size<=8
 l1:1<=k.last.size
 l8:k.last.size<=8
 le:iX k.last k.first=bj
def Nt:(prog.info? 331).map (λi=>(i.zero,i.size,i.bytes))=H (H<|dD #[aq 0,aq 0,aq 0,am ⟨#[]⟩,am ⟨#[]⟩],5,56):=by kernel_rfl
def RF(x c d u v:ab)(t:TypeId)(e:b=z (G a)):∀j q,[x,c,d,u,v][j]?=H q->aS (cG a<|ay #[x,c,d,u,v] t) (((R b 0):Addr).add j)=H q:=by
 intro j q f;subst e;rw[dt];simp_all
def RI(a:ml)(k:pV):ez (a++[k])=ez a++[aq k.pos,aq k.size,aq k.count,am k.first,am k.last]:=by simp[ez,pV.cells]
def Ic(a b:ae):(Op.bytesLess a.toList b.toList||a.toList==b.toList)=!iX b a:=by rw[<-OI];simp
def Vu(t:TypeId)(a b:ae):binOp .leq t (am a) (am b)=pure (aK<|Op.bytesLess a.toList b.toList||a.toList==b.toList):=by simp[binOp,Op.stringOp]
def Gj(s:ae)(w:Z)(b:1<=s.size)(c:s.size<=8):cD aZ 71 #[am s] w λe a=>e=aJ (aK ci)/\a=w:=by
 grind[qA]
def TN(k:pV)(w:Z)(h:k.Can):cD aZ 201 #[k.value] w λo p=>o=aJ (aK ci)/\p=cG w (ay #[aq k.pos,aq k.size,aq k.count,am k.first,am k.last] 331):=by
 obtain⟨pos,j,b,first,a⟩:=k;have l:=h.size;have m:=h.c1;have n:=h.c2;have e:=h.f1;have f:=h.f8;have g:=h.l1;have i:=h.l8;have q:(Op.bytesLess first.toList a.toList||first.toList==a.toList)=ci:=by rw[Ic];simp only[h.le];rfl
 simp only at l m n e f g i;unfold pV.value;simp only;clear h;go_in
 go_wp2_with fail
 apply(Gj first _ e f).mono;rintro o d⟨rfl,c⟩;subst d;go_wp2_with fail
 apply(Gj a _ g i).mono;rintro o d⟨rfl,c⟩;subst d;go_wp2;go_ret;simp_all
def sD(a:ml):M:=(a.map pV.size).sum
def rA(a:ml):M:=(a.map pV.count).sum
def jj(a:ml):ae:=(a.getLast?.map pV.last).getD ⟨#[]⟩
structure Jb(ks:ml):Prop where
 ne:1<=y ks
 len:y ks<=100
 can:∀k∈ks,k.Can
 Ly:rA ks<=100
 pos:∀n(h:n<y ks),ks[n].pos=sD (ks.take n)
 Zn:∀n(h:n<y ks),iX (jj<|ks.take n) ks[n].first=ci
def Mx(a:ml)(k:pV):sD (a++[k])=sD a+k.size:=by simp[sD]
def Bt(a:ml)(k:pV):rA (a++[k])=rA a+k.count:=by simp[rA]
def Eb(a:ml)(k:pV):jj (a++[k])=k.last:=by simp[jj]
def Br(a:ml)(n:M):rA (a.take n)<=rA a:=by
 have h:=bQ (λl=>(l.map pV.count).sum)<|bX n a;simp only[aR,iO]at h;unfold rA;omega
def JB{ks:ml}(h:∀k∈ks,k.Can):sD ks<=512*y ks:=by
 induction ks with
 |nil=>simp[sD]
 |cons k ks b=>
  have a:=(h k<|by simp).size;have c:=b (λj a=>h j<|by simp[a]);unfold sD at*;grind
def pV.Can.fits{k:pV}(h:k.Can):k.Fits:=⟨by have:=h.size;omega,by have:=h.c2;omega,by have:=h.f8;omega,by have:=h.l8;omega⟩
def Ad(s:ae)(b:s.size<=255):jn (dZ s):=by
 intro x a;unfold dZ at a;rcases bR.1 a with rfl|a;omega;exact jn.text s x a
def TH{k:pV}(h:k.Fits):jn (uH k):=(jn.le 4 _).append<|(jn.le 4 _).append<|(Ad _ h.first).append<|Ad _ h.last
def CH(h:∀k∈C,k.Fits):jn (C.flatMap uH):=by
 intro x a;obtain⟨k,b,a⟩:=nL.1 a;exact TH (h k b) x a
structure Ja(w0 w:Z)(rb:M)(num cut isz sum:U)(ks:ml)(o:ab)(n:M):Prop where
 own:w.ownsRow (z<|G w0) 331 5 o n (ez<|ks.take n)
 rd:Rd w rb ((ks.drop n).flatMap uH) bj
 box:w.heap[z<|G w0]?=H (ay #[aE num,dh cut,dh isz,dh sum] 188 (0,0))
 ap:I az w0 w
 SA:z (G w0)<rb
 uO:∀k,cz o=H k->rb<k
def CY(eb m K:M)(num:U)(hT:Steps a)(hP:Jb C)(hb:Bytes a (aY eb m (y<|eO C) K) (eO C)):cD aZ 149 #[aY eb m (y<|eO C) K,dD #[aE num,dh (sD C:M),dh (y (eO C):M),dh<|kO<|eO C]] a λP w'=>
 ∃b,P=aJ (dd #[b,aK ci])/\w'.ownsRow (z<|G a) 331 5 b (y C) (ez C)/\I az a w':=by
 have t:∀l∈C,l.Fits:=λl j=>(hP.can l j).fits
 have cE:y (eO C)<=52004:=by
  have h1:=kR t;have b:=hP.len;unfold eO;rw[ag,bU];omega
 have bm:0<y (eO C):=by unfold eO;rw[ag,bU];omega
 have dm:sD C<=51200:=by have:=JB hP.can;have:=hP.len;omega
 obtain⟨i0,bl,ca,cb,ce⟩:=cU Nt
 obtain⟨aF,hL⟩:∃aF,y (eO C)=aF:=⟨_,rfl⟩
 obtain⟨aU,hS⟩:∃aU,sD C=aU:=⟨_,rfl⟩
 obtain⟨ch,hN⟩:∃ch,y C=ch:=⟨_,rfl⟩
 rw[hL]at cE bm
 rw[hS]at dm
 rw[hL,hS]
 have e1:IntKind.i64.wrap (aF:U)=aF:=by rw[bS];omega
 have e2:IntKind.i64.wrap (aU:U)=aU:=by rw[bS];omega
 have bv:∀cv,cv.heap=(cG a<|ay #[aE num,dh aU,dh aF,dh<|kO<|eO C] 188).heap->cD aZ 153 #[aY eb m aF K] cv λP w'=>P=aJ (dh<|kO<|eO C)/\w'=cv:=by
  intro cv b;refine qt _ (eO C) cv ((hT.alloc _).of_heap b) ?_ (by omega);rw[<-hL];exact(hb.alloc _).of_heap b
 have ed:eb<z (G a):=hb.lt (by grind) eb rfl
 obtain⟨HB,HT,HP,HF,HL,HS,HN⟩:=yt hb hT hP t hL hS hN
 clear hb hT hP t hL hS hN
 generalize kO (eO C)=ec at*
 go_in
 go_wp2_with fail
 go_quiet(first|(go_at_call 153;refine Calls.quiet_of_same (bv _ rfl)))
 have L:∃f,(cG a<|ay #[aE num,dh aU,dh aF,dh ec] 188).drewN nq=f/\I az a f/\f.heap[z<|G a]?=H (ay #[aE num,dh aU,dh aF,dh ec] 188 (0,0))/\Bytes f (aY eb m aF K) (eO C)/\z (G a)<z (G f):=by
  refine⟨_,rfl,(cK az a).of_heap rfl,aH _ rfl,?_,by simp⟩;have:=HB.alloc<|ay #[aE num,dh aU,dh aF,dh ec] 188;rw[af HL]at this;exact this.of_heap rfl
 obtain⟨f,L,bE,bp,bg,cd⟩:=L
 rw[L]
 have db:=mO bg (by intro l j;cases j;grind)
 have cu:=Y bE
 have bb:=Y bp
 clear L bE bp bg
 go_wp2_with fail
 apply db.mono
 rintro P w2⟨rfl,V,aD⟩
 subst aD
 have cw:=HP.ne
 have cx:=HP.len
 rw[af HN]at cw cx
 have S:eO C=le 4 (ch:M)++C.flatMap uH:=by unfold eO;rw[af HN]
 have dT:=rO (z<|G f) (ch:M) (C.flatMap uH) _ (S▸V) (CH HF) (by have:=kR HF;rw[af HN]at this;omega) (by omega)<|by omega
 clear V S
 go_wp2_with fail
 apply dT.mono
 rintro P w3⟨rfl,W,au⟩
 have cs:=Y W
 have cl:=Y au
 have ea:=au.size
 simp at ea
 clear W au
 go_wp2_with(first
  |(at_make;go_loud(refine ki _ rfl _ _ 261 rfl (z (G a)) 331 i0 (.agg #[.int .i64 0,.int .i64 0,.int .i64 0,.string ⟨#[]⟩,.string ⟨#[]⟩]) 5 underlying261 bl ca cb _ _ _ ch rfl rfl (by omega) (by rw[ce];omega) (by unfold maxLen;omega) (by omega) ?_;intro w4 T Q;have co:=Y T;have aa:=Y Q;clear T Q)))
 have em:=aa.size
 have hA0:Ja a w4 (z<|G f) num aU aF ec C (aY (z<|G w3) 0 0 ch) 0:=by
  have c:I (λl=>l=z (G f)) f w3:=(cK (λl=>l=z (G f)) f).trans (fj cl)<|λ_ h=>.inl h;have b:I (λl=>l=z (G f)) f w4:=c.bW (I.dW (S:=az) aa<|by simp);refine⟨co,cs.laid aa,(b.block _ (ar bb) (by intro P;omega)).trans bb,cu.trans b (λl j=>.inr<|by omega),cd,?_⟩;intro l j;simp[cz]at j;omega
 have cj:=Y hA0
 clear hA0
 go_loopw [8,9,10,11,39] (λo p q l i wr=>∃n:M,n<=ch/\i=dh n/\p=aq (sD (C.take n):M)/\q=aq (rA (C.take n):M)/\l=am (jj<|C.take n)/\Ja a wr (z<|G f) num aU aF ec C o n) (λ_ _ _ _ i _=>ch-(intOf i).toNat)
 case atStart=>exact⟨0,bG _,rfl,rfl,rfl,rfl,cj⟩
 case round=>
  obtain⟨n,ek,rfl,rfl,rfl,rfl,e⟩:=hrel;have s:=e.own;obtain⟨ox,oc,ho⟩:=aC s;have ej:=e.rd.lt;have en:=e.ap.size;have ao:=Br C n;have cB:=HP.Ly;by_cases bo:n<ch
  .have p:n<y C:=by rw[af HN];exact bo
   have g:=HP.can C[n]<|ak p;have B:=HP.pos n p;have x:=HP.Zn n p;have k:=e.rd;rw[bD p,dI]at k;have A:jn ((C.drop<|n+1).flatMap uH):=CH<|λl j=>HF l<|dH j;have cT:y ((C.drop<|n+1).flatMap uH)<=52000:=by
    have h1:=kR (ks:=C.drop<|n+1)<|λl j=>HF l<|dH j;grind[af]
   have D:C.take (n+1)=C.take n++[C[n]]:=aj p;have X:sD (C.take n)<=51200:=by
    have h1:=JB (ks:=C.take n)<|λl j=>HP.can l<|dU j;grind
   rw[<-B]at X|-;have bd:=Y B;have F:=Y D;generalize C[n]=l at*;generalize hR:(C.drop<|n+1).flatMap uH=an at*;have HR:=Y hR;clear hR;have u:=λcv=>TN l cv g;have cM:=g.fits;obtain⟨pos,d,b,first,c⟩:=l;have f1:=g.size;have f2:=g.c2;have f3:=g.f8;have f4:=g.l8;simp only at f1 f2 f3 f4 X x;unfold uH at k;simp only[bz]at k;unfold pV.value at u;simp only at u;have a8:(Op.bytesLess first.toList (jj<|C.take n).toList||first.toList==(jj<|C.take n).toList)=bj:=by rw[Ic,x];rfl
   have av:jn (dZ c++an):=(Ad _<|by omega).append A;have ax:jn (dZ first++(dZ c++an)):=(Ad _<|by omega).append av;have bn:jn (le 4 b++(dZ first++(dZ c++an))):=(jn.le 4 _).append ax;have ef:y (dZ c)<=9:=by unfold dZ;rw[aW,gY];omega
   have eg:y (dZ first)<=9:=by unfold dZ;rw[aW,gY];omega
   have e3:IntKind.i64.wrap (d:U)=d:=by rw[bS];omega
   have e4:IntKind.i64.wrap (b:U)=b:=by rw[bS];omega
   have ds:=rO (z<|G f) (d:M) _ wr k bn (by grind[length_append,bU]) (by omega) (by omega);obtain⟨cm,cn,ba,HA,bc⟩:=jk av ax A e (show∀(x:Bool)(a:Z),(Op.unary .not<|aK x).run aZ a=.ok (aK<|!x) a fromλ_ _=>rfl);clear e s k av ax bn A g x cM B D;subst ho;generalize jj (C.take n)=ll at*;obtain⟨cc,v⟩:∃cc,rA (C.take n)=cc:=⟨_,rfl⟩;rw[v]at ao|-;have ck:=Y v;clear v;go_wp2_with fail
   apply ds.mono;rintro P w5⟨rfl,br,bh⟩;have aD:=rO (z<|G f) (b:M) _ w5 br cn (by simp only[ag];omega) (by omega) (by omega);have ac:=Y bh;clear br bh;go_wp2_with fail
   apply aD.mono;rintro P w6⟨rfl,bs,bi⟩;have dv:=On (z<|G f) first w6 bs cm (by simp only[ag];omega) (by omega)
   have ad:=Y bi;clear bs bi;go_wp2_with fail
   apply dv.mono;rintro P w7⟨rfl,bt,bk⟩;have dx:=On (z<|G f) c w7 bt ba (by omega) (by omega);have al:=Y bk;clear bt bk;go_wp2_with fail
   apply dx.mono;rintro P w⟨rfl,bu,O⟩;have HX:=Y (show∀o2 o,o.ownsRow (z<|G a) 331 5 o2 (n+1) (ez (C.take n)++[aq pos,aq d,aq b,am first,am c])->eC (cG (cG (cG w<|ay #[aq pos,aq d,aq b,am first,am c] 331)<|ay #[aq pos,aq d,aq b,am first,am c] 331)<|ay #[aq pos,aq d,aq b,am first,am c] 331) o (J ox n oc) o2->BC o (z<|G w) ⟨pos,d,b,first,c⟩/\Ja a o (z<|G f) num aU aF ec C o2 (n+1)from by
    intro o2 o r i;have e:=af HA;have E:I (λl=>l=z (G f)) wr w:=(((fj ac).trans (fj ad)<|λ_ h=>.inl h).trans (fj al)<|λ_ h=>.inl h).trans (fj O)<|λ_ h=>.inl h;have bx:=E.size;have bq:=e.own.lt;have bT:I (λl=>cz (J ox n oc)=H l) w o:=((((I.refl (λl=>cz (J ox n oc)=H l) w).alloc _).alloc _).alloc _).trans (I.fy i)<|λ_ h=>.inl h;have N:BC (cG w<|ay #[aq pos,aq d,aq b,am first,am c] 331) (z<|G w) ⟨pos,d,b,first,c⟩:=aH _ rfl;have dn:I (λl=>cz (J ox n oc)=H l) (cG w<|ay #[aq pos,aq d,aq b,am first,am c] 331) o:=(((I.refl (λl=>cz (J ox n oc)=H l) _).alloc _).alloc _).trans (I.fy i)<|λ_ h=>.inl h;have bf:=e.uO;refine⟨N.ap dn (λP=>by have:=(bq _ P).2;omega),?_,?_,?_,?_,e.SA,?_⟩
    .rw[af F,RI];exact r
    .have dc:=((bu.laid<|dy w (ay #[aq pos,aq d,aq b,am first,am c] 331) none).laid<|dy _ (ay #[aq pos,aq d,aq b,am first,am c] 331) none).laid<|dy _ (ay #[aq pos,aq d,aq b,am first,am c] 331) none;have dk:=dc.wrote i bf;rw[af HR];exact dk
    .exact(bT.block _ (by omega) (λP=>by have:=bf _ P;have:=e.SA;omega)).trans<|(E.block _ (ar e.box) (λP=>by have:=e.SA;omega)).trans e.box
    .exact(e.ap.trans E<|λl j=>.inr (by have:=e.SA;omega)).trans bT<|λl j=>.inr (bq l j).1
    .intro l j;rcases i.uj with es|⟨er,es,hy⟩
     .simp_all
     .rw[es]at j;cases j;simp at hy;omega)
   have bx:z (G f)<z (G w):=by
    have:=ac.size;have:=ad.size;have:=al.size;have:=O.size;omega
   have cp:=Y (show w.ownsRow (z<|G a) 331 5 (J ox n oc) n (ez<|C.take n)from by
    have e:=af HA;have E:I (λl=>l=z (G f)) wr w:=(((fj ac).trans (fj ad) (λ_ h=>.inl h)).trans (fj al) (λ_ h=>.inl h)).trans (fj O) (λ_ h=>.inl h);exact E.own e.own (λl j P=>by have:=e.uO l j;omega))
   have ei:=af bc;clear bu O;go_wp2_with fail
   apply(u _).mono;rintro P w9⟨rfl,el⟩;subst w9;go_wp2_with(first
    |(at_builtin;go_loud(refine ct _ rfl (.tmp 62) (.tmp 64) 261 rfl (z (G a)) 331 i0 (.agg #[.int .i64 0,.int .i64 0,.int .i64 0,.string ⟨#[]⟩,.string ⟨#[]⟩]) 5 56 underlying261 bl ca cb ce rfl (by decide) (.slice ox n oc) n (ez (C.take n)) rfl (aX (aX (aX cp _) _) _) (R (z (G w)+2) 0) 1 1 [.int .i64 pos,.int .i64 d,.int .i64 b,.string first,.string c] rfl rfl (RF _ _ _ _ _ _ (by simp)) (by simp[Value.oneCell']) (by omega) (by omega) (by simp;omega) ?_;intro o2 o r i;obtain⟨N,hA10⟩:=HX o2 o r i;obtain⟨m0,m1,m2,m3,m4⟩:=N.cells;simp only at m0 m1 m2 m3 m4;obtain⟨eq,eo,rfl⟩:=aC r;have aV:=Y hA10;clear r i hA10 N)))
   go_quiet(fail)
   go_wp2;go_roundw;case rel=>
    refine⟨n+1,bo,by go_num,?_,?_,?_,?_⟩
    .rw[af F,Mx,<-af bd];go_num
    .rw[af F,Bt,af ck];go_num
    .rw[af F,Eb]
    .have e:=af aV;exact⟨e.own,e.rd,e.box,e.ap.of_heap rfl,e.SA,e.uO⟩
   case measure=>simp[intOf];omega
  .have i:n=ch:=by omega
   subst i;have b:C.take n=C:=by rw[<-af HN,bL]
   have k:=e.rd;have d:C.drop n=[]:=by rw[<-af HN,fZ]
   rw[d]at k;have c:=xp k (by simp);simp only[uq,ql,lR,tT]at c;have r:=cellAt e.box 1 rfl;rw[b]at ao|-;rw[af HS];rw[ho,b]at s;have p:=Y s;have g:=Y e.ap;clear e s k d b;obtain⟨cc,v⟩:∃cc,rA C=cc:=⟨_,rfl⟩;rw[v]at cB ao|-;clear v;have o:((cc:U)<=100)=True:=by simp;omega
   subst ho;go_wp2_with fail
   apply c.mono;rintro P w5⟨rfl,u⟩;subst w5;go_wp2;go_ret2
   exact⟨_,rfl,by rw[af HN];exact p,g⟩
def oA.trans{w w' d:Z}{a:DK}(h:oA w w' c i L)(k:oA w' d c L a):oA w d c i a:=⟨k.ok,h.ap.trans k.ap<|λx e=>h.aO x e,λx e=>(k.aO x e).elim (λg=>h.aO x g)<|λg=>.inr<|aB h.ap.size g⟩
def oA.refl(h:cH a b i):oA a a b i i:=⟨h,I.refl _ _,λ_ c=>.inl c⟩
abbrev Fs:=cS<|ae×dN
variable{F:Fs}
def vw(a:cS cX):Fs:=a.map<|λf=>(f.name,f.bytes)
def dB:Fs->ae->Option dN
 |[],_=>none
 |f::r,n=>if f.1=n then H f.2 else dB r n
def uL:Fs->ae->Fs
 |[],_=>[]
 |f::r,n=>if f.1=n then r else f::uL r n
def sN:Fs->ae×dN->Fs
 |[],f=>[f]
 |g::r,f=>if g.1=f.1 then f::r else g::sN r f
def ii(a:Fs):M:=(a.map (·.2.length)).sum
def Jm(a:cS cX):sB a=ii (vw a):=by
 unfold sB ii vw;rw[iP];rfl
theorem rV(a:cS cX)(n:ae):dB (vw a) n=(mS a n).map cX.bytes:=by
 induction a with
 |nil=>rfl
 |cons f r b=>
  unfold vw at*;by_cases h:f.name=n<;>simp[dB,mS,h,b]
def Sd(a:cS cX)(n:ae):vw (pm a n)=uL (vw a) n:=by
 induction a with
 |nil=>rfl
 |cons f r b=>
  unfold vw at*;by_cases h:f.name=n<;>simp[uL,pm,h,b]
def AK(a:cS cX)(f:cX):vw (mB a f)=sN (vw a) (f.name,f.bytes):=by
 induction a with
 |nil=>rfl
 |cons g r b=>
  unfold vw at*;by_cases h:g.name=f.name<;>simp[sN,mB,h,b]
theorem Bl(h:dB F v=H n):sN F (v,n)=F:=by
 induction F with
 |nil=>cases h
 |cons g r b=>
  obtain⟨a,c⟩:=g;by_cases e:a=v
  .subst e;simp[dB]at h;simp[sN,h]
  .simp[dB,e]at h;simp[sN,e,b h]
def Gq(d c:dN)(h:dB F v=none):sN (F++[(v,d)]) (v,c)=F++[(v,c)]:=by
 induction F with
 |nil=>simp[sN]
 |cons g r b=>
  obtain⟨a,f⟩:=g;by_cases e:a=v
  .simp[dB,e]at h
  .simp[dB,e]at h;simp[sN,e,b h]
def jr(a b:Fs)(n:ae):dB (a++b) n=(dB a n).or (dB b n):=by
 induction a with
 |nil=>simp[dB]
 |cons g r c=>by_cases e:g.1=n<;>simp[dB,e,c]
def sa(b:Fs)(f:ae×dN)(n:ae):dB (sN b f) n=if f.1=n then H f.2 else dB b n:=by
 induction b with
 |nil=>by_cases e:f.1=n<;>simp[sN,dB,e]
 |cons h r g=>
  by_cases e:h.1=f.1
  .by_cases a:f.1=n<;>simp[sN,dB,e,a]
  .by_cases a:h.1=n
   .have c:¬f.1=n:=λb=>e<|a.trans b.symm;have d:¬n=f.1:=λb=>c b.symm;simp[sN,dB,a,c,d]
   .simp[sN,dB,e,a,g]
def xe(h:dB F v=H n):(v,n)∈F:=by
 induction F with
 |nil=>cases h
 |cons g r c=>
  obtain⟨a,b⟩:=g;by_cases e:a=v
  .subst e;simp[dB]at h;simp[h]
  .simp[dB,e]at h;grind
def ud(a b:Fs):ii (a++b)=ii a+ii b:=by simp[ii]
def gR{a:cS cX}(h:dB (vw a) v=H n):∃F,mS a v=H F/\F.bytes=n:=by
 rw[rV]at h;simp_all
def vz{a:cS cX}(h:dB (vw a) v=none):mS a v=none:=by
 rw[rV]at h;simp_all
def Fv{db:M}{K:DK}(a:ae)(al b j:M){bs:dN}{w:Z}(h:cH w db K)(B:dB (vw K.files) a=none)(hn:y K.dM<=1000000000000)(e:ii (vw K.files)+y bs<=1099511627776)(E:jn bs)(u:∀an ao,(bs.map<|Value.int .u8)[an]?=H ao->aS w (R al<|b+an)=H ao)(i:al<z (G w))(t:¬K.aO db al):cD aZ 222 #[aA db,am a,aY al b (y bs) j] w λQ p=>Q=aJ .nilIface/\∃c,oA w p db K c/\vw c.files=vw K.files++[(a,bs)]/\y c.dM=y K.dM+1:=by
 have D:=vz B;have ad:=Lt a h (Bj D) hn
 have HX:=Y (show∀r f,oA w r db K f->f.files=K.files++[⟨a,z<|G w,aw,[],0⟩]->cD aZ 125 #[aA db,am a,aY al b (y bs) j] r λQ p=>Q=aJ .nilIface/\∃c,oA r p db f c/\vw c.files=vw K.files++[(a,bs)]/\c.dM=f.dM from by
  intro r f v hf;have q:vw f.files=vw K.files++[(a,[])]:=by rw[hf];simp[vw]
  have C:dB (vw f.files) a=H []:=by rw[q,jr,B];simp[dB]
  obtain⟨au,hF,d⟩:=gR C;refine(RM a au al b j bs v.ok hF (by rw[Jm,q,ud];simp[ii]at e|-;omega) E (λan ao hj=>v.ap.cell (u an ao hj) t i) (ah i v.ap.size) (by rw[d];simp)).mono ?_;rintro Q p⟨rfl,c,k,⟨av,n⟩,o⟩;refine⟨rfl,c,k,?_,o⟩;rw[n,AK];simp only[d,de,(iS hF).1];rw[q];exact Gq [] bs B)
 have HY:=Y (show∀s g,cH s db g->vw g.files=vw K.files++[(a,bs)]->cD aZ 78 #[aA db,am a] s λQ p=>Q=aJ .nilIface/\∃c,oA s p db g c/\vw c.files=vw K.files++[(a,bs)]/\c.dM=g.dM from by
  intro s g v q;have C:dB (vw g.files) a=H bs:=by rw[q,jr,B];simp[dB]
  obtain⟨au,hF,d⟩:=gR C;refine(UX a au v hF (by rw[d];omega)).mono ?_;rintro Q p⟨rfl,c,k,n,o⟩;refine⟨rfl,c,k,?_,o⟩;rw[n,AK];simp only[d,(iS hF).1];rw[Bl C,q])
 clear h B D u e t E;go_in
 go_wp2_with fail
 apply ad.mono;rintro Q r⟨rfl,f,l,A,F⟩;have ha:=HX r f l A;have S:=Y l;have W:=Y F;clear l A F;go_wp2_with fail
 apply ha.mono;rintro Q s⟨rfl,g,m,O,L⟩;have hs:=HY s g m.ok O;have T:=Y m;have X:=Y L;clear m O L;go_wp2_with fail
 apply hs.mono;rintro Q w3⟨rfl,K3,x,P,N⟩;obtain⟨V,ac,aa⟩:=dz x P N;clear x P N;go_wp2;go_ret;exact⟨rfl,K3,(S.trans T).trans V,ac,by rw[af aa,af X,af W]⟩
def zG{db:M}{K:DK}(a:ae)(i:dN){w:Z}(h:cH w db K)(m:dB (vw K.files) a=H i)(k:y i<=1099511627776):cD aZ 54 #[aA db,am a] w λx p=>∃o,x=aJ (dd #[o,.nilIface])/\eE p (z<|G w) o i/\∃g,oA w p db K g/\g.files=K.files/\g.dM=K.dM/\∀C,g.aO db C->K.aO db C:=by
 obtain⟨F,hF,rfl⟩:=gR m;have l:=Vd a F h hF (by omega);have f:=AV a F 0 (y F.bytes) h hF k (bG _) k;rw[List.drop_zero,bL]at f;generalize F.bytes=i at*;clear h m hF k;go_in
 go_wp2_with fail
 apply l.mono;rintro x q⟨rfl,A⟩;subst q;go_wp2_with fail
 apply f.mono;rintro x q⟨B,rfl,n,v,b,c,e,d⟩;obtain⟨u,r,s,t,j⟩:=jk n b c e d;clear n b c e d;go_wp2;go_ret2
 exact⟨B,rfl,u,v,r,s,t,j⟩
def FR{db:M}{K:DK}(a:ae){w:Z}(h:cH w db K)(c:dB (vw K.files) a=none):cD aZ 54 #[aA db,am a] w λg e=>g=aJ (dd #[aw,.iface 202<|aA<|z<|G w])/\e=cG w (ay #[am a,aq 10] 204):=by
 have b:=Px _ a h.iy h.now<|Bj<|vz c;clear h c;go_in
 go_wp2_with fail
 apply b.mono;rintro g f⟨rfl,d⟩;subst f;go_wp2;go_ret2
 simp_all
def cf.Wh{s:SR}(h:cf a b s k)(c:Bool):cf (cA a (R b 20)<|aK c) b {s with iQ:=c} k:=by
 have:=aL (i:=20) (u:=aK c) h;exact this
def cf.Wg{s:SR}(h:cf a b s k)(c:Bool):cf (cA a (R b 21)<|aK c) b {s with iW:=c} k:=by
 have:=aL (i:=21) (u:=aK c) h;exact this
structure gq(w w':Z)(db sb:M)(K K':DK):Prop where
 ok:cH w' db K'
 ap:I (λk=>K.aO db k\/k=sb) w w'
 aO:∀k,K'.aO db k->K.aO db k\/z (G w)<=k
def gq.of{b sbqq:M}(h:oA a f b i L):gq a f b sbqq i L:=⟨h.ok,h.ap.mono<|λ_ c=>.inl<|.inl c,h.aO⟩
def gq.refl{b sbqq:M}(h:cH a b i):gq a a b sbqq i i:=⟨h,I.refl _ _,λ_ c=>.inl c⟩
def gq.trans{w w' d:Z}{a:DK}(j:gq w w' c g i L)(k:gq w' d c g L a):gq w d c g i a:=⟨k.ok,j.ap.trans k.ap<|λx h=>h.elim (λe=>(j.aO x e).imp .inl id)<|λe=>.inl<|.inr e,λx h=>(k.aO x h).elim (λe=>j.aO x e)<|λe=>.inr<|aB j.ap.size e⟩
def gq.set{d:DK}(h:gq a f b c L d)(g:¬d.aO b c)(i:M)(v:ab):gq a (cA f (R c i) v) b c L d:=by
 have e:I (λk=>k=c) f (cA f (R c i) v):=(I.refl _ f).setCell c i v<|.inl rfl;exact⟨h.ok.ap e<|λk c f=>g<|f▸c,h.ap.trans e<|λk c=>.inl<|.inr c,h.aO⟩
def oA.zO(h:oA a f b i L)(d:¬i.aO b c)(g:c<z (G a)):¬L.aO b c:=λe=>(h.aO c e).elim d<|λj=>by omega
def Ze(s:SR)(K a:DK):Prop:=s.iQ=ci->s.iW=ci->∃F,mS K.files (fD s.log)=H F/\a.files=mB K.files {F with safe:=y F.bytes}/\a.dM=[]/\a.sm=(K.dM.map (·.2)).foldl mR K.sm
def yr{s:SR}(h:cf a b s k)(hd:cH a s.aM L)(hn:¬L.aO s.aM b)(hp:Pow a)(hl:s.log<18446744073709551616)(hf:s.iQ=ci->∃bs,dB (vw L.files) (fD s.log)=H bs/\y bs<=1000000000000)(hm:y L.dM<=1000000000000):cD aZ 48 #[aA b] a λbf w'=>bf=aJ .nilIface/\∃o,gq a w' s.aM b L o/\vw o.files=vw L.files/\y o.dM<=y L.dM/\cf w' b {s with iQ:=bj,iW:=bj} k/\Ze s L o:=by
 have E:=ar h;have aU:∀bg r,cH bg s.aM r->vw r.files=vw L.files->s.iQ=ci->cD aZ 78 #[aA s.aM,am<|fD s.log] bg λbf w'=>bf=aJ .nilIface/\∃o,oA bg w' s.aM r o/\vw o.files=vw L.files/\o.dM=r.dM/\∃F,mS r.files (fD s.log)=H F/\o.files=mB r.files {F with safe:=y F.bytes}/\o.sm=r.sm:=by intro bg r hW A j;obtain⟨bs,l,D⟩:=hf j;rw[<-A]at l;obtain⟨F,hF,c⟩:=gR l;refine(Jr (fD s.log) F hW hF (by rw[c];omega)).mono ?_;rintro bf w'⟨rfl,o,e,d,p,t⟩;refine⟨rfl,o,e,?_,p,F,hF,d,t⟩;rw[d,AK];simp only[c,(iS hF).1];rw[Bl l,A]
 have aF:∀bg r,cH bg s.aM r->y r.dM<=y L.dM->cD aZ 79 #[aA s.aM] bg λbf w'=>bf=aJ .nilIface/\∃o,oA bg w' s.aM r o/\o.files=r.files/\o.dM=[]/\o.sm=(r.dM.map (·.2)).foldl mR r.sm:=λbg r hW a=>zw hW (by omega);obtain⟨aD,ax,HP,an,HB⟩:=jk aU aF hp hd h;have c2:=cf.cellAt h 2 rfl;have B:=cf.cellAt h 17 rfl;have av:=cf.cellAt h 20 rfl;have C:=cf.cellAt h 21 rfl;clear aU aF hp hd h hf;cases j:s.iQ with
 |false=>
  rw[j]at av;cases hln:s.iW with
  |false=>
   rw[hln]at C;have u:=HB;obtain⟨g,w,x⟩:=dz (gq.refl (sbqq:=b) an) (ai<|y L.dM) hn;go_in
   go_wp2;go_ret;refine⟨rfl,L,g,rfl,w,?_,λq=>by rw[j]at q;cases q⟩;have hB:=af u;unfold cf SR.cells at hB|-;grind
  |true=>
   rw[hln]at C;have u:=HB;obtain⟨g,w,x⟩:=dz (gq.refl (sbqq:=b) an) (ai<|y L.dM) hn;go_in
   have X:=ax a L g.ok w;go_wp2_with fail
   apply X.mono;rintro bf w8⟨rfl,K8,n,aa,ac,bd⟩;have f:=n.zO x<|ah E g.ap.size;have m:cf w8 b _ k:=u.ap n.ap x;have bn:aS w8 (R b 21)=H (aK ci):=m.cell (by rw[<-hln];rfl);have bq:w8.frozen? (R b 21)=bj:=m.free;obtain⟨ba,aV,ao,au⟩:=fX ((g.trans<|gq.of n).set f 21<|aK bj) (m.Wg bj) aa ac;clear n aa ac f m X;go_wp2;go_ret;refine⟨rfl,K8,ba,by rw[af ao],by rw[af au];grind,?_,λq=>by rw[j]at q;cases q⟩;have hB:=af aV;grind
 |true=>
  rw[j]at av;cases hln:s.iW with
  |false=>
   rw[hln]at C;have hS:aS a.drew (R b 2)=H (aA s.aM)/\aS a.drew (R b 17)=H (aE s.log):=⟨c2,B⟩;go_in
   go_wp2_with fail
   rename_i QQ KK P;refine dL (λA=>aS A (R b 2)=H (aA s.aM)/\aS A (R b 17)=H (aE s.log)) 10 (by kernel_rfl) ?_;refine eR 0 ?_;iterate 8 (refine iC (v:=?_) hS rfl (by kernel_rfl) ma rfl ?_ ?_;rotate_left;(focus(intro A hX;obtain⟨z0,z1⟩:=hX;go_simp;try rfl));simp only[Act.put,eF,Nat.reduceAdd])
   apply ig;refine bC (i:=8) rfl rfl (by kernel_rfl) ?_;intro K8 N;go_simp;apply(tE s.log hl<|HP.ap (cR az a) id).mono;rintro bf w1⟨rfl,W⟩;have c:I az a w1:=(cR az a).bW<|I.aQ (S:=az) W;have Q:aS w1 (R b 2)=H (aA s.aM)/\aS w1 (R b 17)=H (aE s.log):=⟨c.cell c2 id E,c.cell B id E⟩;have ad:=aD w1 L (an.ap c<|λ_ _=>id) rfl j;refine N _ _ (λ_=>Q) ?_;refine bC (i:=9) rfl rfl (by kernel_rfl) ?_;intro K9 O;go_simp;apply ad.mono;rintro bf t⟨rfl,K2,e,al,D,bc⟩;have br:=c.size;have d:cf t b s k:=(HB.ap c id).ap e.ap hn;have V:aS t (R b 2)=H (aA s.aM)/\aS t (R b 17)=H (aE s.log):=⟨d.cell rfl,d.cell rfl⟩;refine O _ _ (λ_=>V) ?_;refine bC (i:=10) rfl rfl (by kernel_rfl) ?_;intro bl p;go_simp;refine p _ _ Fc ?_;refine eN (by kernel_rfl) ?_ _;show KK _ _;apply P;have f:=e.zO hn (by omega);have K:oA a t s.aM L K2:=⟨e.ok,(c.mono (T:=L.aO s.aM) cC).trans e.ap<|λ_ h=>.inl h,λr o=>(e.aO r o).imp id<|λaF=>by omega⟩;have bm:aS t (R b 20)=H (aK ci):=d.cell (by rw[<-j];rfl);have bp:t.frozen? (R b 20)=bj:=d.free;have l:=d.Wh bj;have bo:aS (cA t (R b 20)<|aK bj) (R b 21)=H (aK bj):=l.cell (by rw[<-hln];rfl);have e2:=cf.cellAt l 2 rfl;obtain⟨u,g,bb,w,x⟩:=jk l ((gq.of (sbqq:=b) K).set f 20<|aK bj) al (show y K2.dM<=y L.dM by rw[D];grind) f;clear P N O p hS Q V ad e al D d l f K c W c2 B av C;go_wp2;go_ret;refine⟨rfl,K2,g,bb,w,?_,λ_ q=>by rw[hln]at q;cases q⟩;have hB:=af u;grind
  |true=>
   rw[hln]at C;have hS:aS a.drew (R b 2)=H (aA s.aM)/\aS a.drew (R b 17)=H (aE s.log):=⟨c2,B⟩;go_in
   go_wp2_with fail
   rename_i QQ KK P;refine dL (λA=>aS A (R b 2)=H (aA s.aM)/\aS A (R b 17)=H (aE s.log)) 10 (by kernel_rfl) ?_;refine eR 0 ?_;iterate 8 (refine iC (v:=?_) hS rfl (by kernel_rfl) ma rfl ?_ ?_;rotate_left;(focus(intro A hX;obtain⟨z0,z1⟩:=hX;go_simp;try rfl));simp only[Act.put,eF,Nat.reduceAdd])
   apply ig;refine bC (i:=8) rfl rfl (by kernel_rfl) ?_;intro K8 N;go_simp;apply(tE s.log hl<|HP.ap (cR az a) id).mono;rintro bf w1⟨rfl,W⟩;have c:I az a w1:=(cR az a).bW<|I.aQ (S:=az) W;have Q:aS w1 (R b 2)=H (aA s.aM)/\aS w1 (R b 17)=H (aE s.log):=⟨c.cell c2 id E,c.cell B id E⟩;have ad:=aD w1 L (an.ap c<|λ_ _=>id) rfl j;refine N _ _ (λ_=>Q) ?_;refine bC (i:=9) rfl rfl (by kernel_rfl) ?_;intro K9 O;go_simp;apply ad.mono;rintro bf t⟨rfl,K2,e,al,D,bc⟩;have br:=c.size;have d:cf t b s k:=(HB.ap c id).ap e.ap hn;have V:aS t (R b 2)=H (aA s.aM)/\aS t (R b 17)=H (aE s.log):=⟨d.cell rfl,d.cell rfl⟩;refine O _ _ (λ_=>V) ?_;refine bC (i:=10) rfl rfl (by kernel_rfl) ?_;intro bl p;go_simp;refine p _ _ Fc ?_;refine eN (by kernel_rfl) ?_ _;show KK _ _;apply P;have f:=e.zO hn (by omega);have K:oA a t s.aM L K2:=⟨e.ok,(c.mono (T:=L.aO s.aM) cC).trans e.ap<|λ_ h=>.inl h,λr o=>(e.aO r o).imp id<|λaF=>by omega⟩;have bm:aS t (R b 20)=H (aK ci):=d.cell (by rw[<-j];rfl);have bp:t.frozen? (R b 20)=bj:=d.free;have l:=d.Wh bj;have bo:aS (cA t (R b 20)<|aK bj) (R b 21)=H (aK ci):=l.cell (by rw[<-hln];rfl);have e2:=cf.cellAt l 2 rfl;obtain⟨u,g,bb,w,x⟩:=jk l ((gq.of (sbqq:=b) K).set f 20<|aK bj) al (show y K2.dM<=y L.dM by rw[D];grind) f;have bi:=Y bc;have bh:=Y D;clear P N O p hS Q V ad e al D bc d l f K c W c2 B av C;have X:=ax (cA t (R b 20)<|aK bj) K2 g.ok w;go_wp2_with fail
   apply X.mono;rintro bf w8⟨rfl,K8,n,aa,ac,bd⟩;have f:=n.zO x<|ah E g.ap.size;have m:cf w8 b _ k:=u.ap n.ap x;have bn:aS w8 (R b 21)=H (aK ci):=m.cell (by rw[<-hln];rfl);have bq:w8.frozen? (R b 21)=bj:=m.free;obtain⟨ba,aV,ao,au⟩:=fX ((g.trans<|gq.of n).set f 21<|aK bj) (m.Wg bj) aa ac;have bk:=Y bd;clear n aa ac bd f m X;go_wp2;go_ret;refine⟨rfl,K8,ba,by rw[af ao];exact bb,by rw[af au];grind,?_,λ_ _=>?_⟩;rotate_left
   .obtain⟨F,q1,q2,q3⟩:=af bi;exact⟨F,q1,by rw[af ao,q2],au,by rw[af bk,q3,af bh]⟩
   have hB:=af aV;grind
def Hw{s:SR}(t:cf a b s k)(m:cH a s.aM i)(q:¬i.aO s.aM b)(r:Pow a)(o:s.log<18446744073709551616)(n:s.iQ=ci->∃d,dB (vw i.files) (fD s.log)=H d/\y d<=1000000000000)(p:y i.dM<=1000000000000):cD aZ 48 #[aA b] a λf e=>f=aJ .nilIface/\∃c,gq a e s.aM b i c/\vw c.files=vw i.files/\y c.dM<=y i.dM/\cf e b {s with iQ:=bj,iW:=bj} k:=(yr t m q r o n p).mono<|λ_ _⟨f,c,g,h,j,l,_⟩=>⟨f,c,g,h,j,l⟩
section
open Conc.Locks
def SR.shut(s:SR):SR:={s with closed:=ci,memory:=aw,l0:=aw,l1:=aw,l2:=aw,l3:=aw,oo:=none}
def Yc(h:cf a b o 0)(e:o.closed=ci):cD aZ 21 #[aA b] a λk d=>k=aJ (pO 6)/\cf d b o 0/\I (λn=>n=b) a d:=by
 have i:=cf.cellAt h 0 rfl;have l:a.frozen? (R b 0)=bj:=h.free;have c:=h.lN 1;have c5:aS (cA a (R b 0)<|lU 1) (R b 5)=H (aK ci):=c.cell (by rw[<-e];rfl);have j:=cf.cellAt c 0 rfl;have m:(cA a (R b 0)<|lU 1).frozen? (R b 0)=bj:=c.free;have g:=Y<|show cf (cA (cA a (R b 0)<|lU 1) (R b 0)<|lU 0) b o 0/\I (λn=>n=b) a (cA (cA a (R b 0)<|lU 1) (R b 0)<|lU 0)from⟨c.lN 0,(iV b a).setCell b 0 _<|.inl rfl⟩;clear h c e;go_enter_defers func21,ntmps21
 go_wp2_with(go_at_call 33;refine(lock_free (R b 0) _ i l).mono ?_;rintro k d⟨rfl,rfl⟩)
 refine jp (f:=34) (args:=#[aA b]) (by simp) (by simp[go_sem]) ?_;apply(unlock_deferred (R b 0) .returning _ j m).mono;rintro k q p⟨rfl,rfl,rfl⟩;exact⟨_,jP rfl _ _ _,rfl,g⟩
def Ry(h:cf a b o 0)(hc:o.closed=bj)(aa:∃B x m,o.memory=J B x m)(S:∃B x m,o.l0=J B x m)(T:∃B x m,o.l1=J B x m)(V:∃B x m,o.l2=J B x m)(W:∃B x m,o.l3=J B x m)(hd:cH a o.aM L)(s:¬L.aO o.aM b)(hp:Pow a)(ad:b≠2)(hl:o.log<18446744073709551616)(hf:o.iQ=ci->∃bs,dB (vw L.files) (fD o.log)=H bs/\y bs<=1000000000000)(hm:y L.dM<=1000000000000):cD aZ 21 #[aA b] a λw A=>w=aJ .nilIface/\∃l,gq a A o.aM b L l/\vw l.files=vw L.files/\y l.dM<=y L.dM/\cf A b {o.shut with iQ:=bj,iW:=bj} 0:=by
 have c0:=cf.cellAt h 0 rfl;have f0:a.frozen? (R b 0)=bj:=h.free;obtain⟨d,g⟩:∃d,cA a (R b 0) (lU 1)=d:=⟨_,rfl⟩;have c:cf d b o 1:=by rw[<-g];exact h.lN 1
 have t:I (λan=>an=b) a d:=by rw[<-g];exact(iV b a)
 have c5:aS d (R b 5)=H (aK bj):=c.cell (by rw[<-hc];rfl);have c6:=cf.cellAt c 6 rfl;have c7:=cf.cellAt c 7 rfl;have N:=cf.cellAt c 10 rfl;have O:=cf.cellAt c 11 rfl;have P:=cf.cellAt c 12 rfl;have Q:=cf.cellAt c 13 rfl;have ao:=cf.cellAt c 16 rfl;have aF:d.frozen? (R b 16)=bj:=c.free;have g5:d.frozen? (R b 5)=bj:=c.free;have g7:d.frozen? (R b 7)=bj:=c.free;have au:d.frozen? (R b 10)=bj:=c.free;have av:d.frozen? (R b 11)=bj:=c.free;have ax:d.frozen? (R b 12)=bj:=c.free;have aD:d.frozen? (R b 13)=bj:=c.free;obtain⟨p,j⟩:∃p,cA (cA (cA (cA (cA (cA (cA d (R b 5)<|aK ci) (R b 7) aw) (R b 10) aw) (R b 11) aw) (R b 12) aw) (R b 13) aw) (R b 16) (.map none)=p:=⟨_,rfl⟩;have X:cf p b o.shut 1:=by have hh:=aL (i:=16) (u:=.map none)<|aL (i:=13) (u:=aw)<|aL (i:=12) (u:=aw)<|aL (i:=11) (u:=aw)<|aL (i:=10) (u:=aw)<|aL (i:=7) (u:=aw)<|aL (i:=5) (u:=aK ci) c;rw[j]at hh;exact hh
 have e:I (λan=>an=b) a p:=by rw[<-j];exact((((((t.setCell b 5 _<|.inl rfl).setCell b 7 _<|.inl rfl).setCell b 10 _<|.inl rfl).setCell b 11 _<|.inl rfl).setCell b 12 _<|.inl rfl).setCell b 13 _<|.inl rfl).setCell b 16 _<|.inl rfl
 have r:=Hw X (hd.ap e<|λan hk w=>s<|w▸hk) s (hp.ap e<|λw=>ad w.symm) hl hf hm;obtain⟨D,C,E,F,K⟩:=jk X (hd.ap e<|λan hk w=>s<|w▸hk) e g j;obtain⟨mx,mn,mc,em⟩:=aa;obtain⟨bc,bb,ba,ea⟩:=S;obtain⟨bx,bn,bd,eb⟩:=T;obtain⟨cx,cn,cc,ec⟩:=V;obtain⟨dx,dn,dc,ed⟩:=W;rw[em]at c7;rw[ea]at N;rw[eb]at O;rw[ec]at P;rw[ed]at Q;clear h c t hc hd hp hf X e g j em ea eb ec ed;go_enter_defers func21,ntmps21
 go_wp2_with fail
 apply(lock_free (R b 0) _ c0 f0).mono;rintro w A⟨rfl,al⟩;rw[af F]at al;subst A;go_wp2_with fail
 rw[af K];apply r.mono;rintro w w2⟨rfl,K2,n,v,q,k⟩;have d0:=cf.cellAt k 0 rfl;have k0:w2.frozen? (R b 0)=bj:=k.free;have HF:=Y (show∃l,gq a (cA w2 (R b 0)<|lU 0) o.aM b L l/\vw l.files=vw L.files/\y l.dM<=y L.dM/\cf (cA w2 (R b 0)<|lU 0) b {o.shut with iQ:=bj,iW:=bj} 0 from by have aU:=ar D;have ac:¬K2.aO o.aM b:=λm=>(n.aO b m).elim s (λd=>by omega);have h0:gq a p o.aM b L L:=⟨C,E.mono<|λ_ m=>.inl<|.inr m,λ_ m=>.inl m⟩;exact⟨K2,(h0.trans n).set ac 0<|lU 0,v,q,k.lN 0⟩);clear r k n v q s;go_wp2;refine jp (f:=34) (args:=#[aA b]) (by simp) (by simp[go_sem]) ?_;apply(unlock_deferred (R b 0) .returning _ d0 k0).mono;rintro w u' aV⟨rfl,rfl,rfl⟩;exact⟨_,jP rfl _ _ _,rfl,HF⟩
end
def uK(a:Fs)(b:cS ae):Fs:=b.foldl uL a
def Iv{m:ae}(h:m≠v):dB (uL F v) m=dB F m:=by
 induction F with
 |nil=>rfl
 |cons g r c=>
  obtain⟨b,d⟩:=g;by_cases e:b=v
  .simp only[uL,e,lk,dB];rw[eI<|λc=>h c.symm]
  .by_cases a:b=m
   .subst a;simp only[uL,eI h,dB,lk]
   .simp only[uL,eI e,dB,eI a,c]
def Nz(a:Fs)(b:cS ae)(n:ae):uK a (b++[n])=uL (uK a b) n:=by simp[uK]
theorem sQ{a:cS ae}(h:v∉a):dB (uK F a) v=dB F v:=by
 induction a generalizing F with
 |nil=>rfl
 |cons n r b=>
  show dB (uK (uL F n) r) v=dB F v;rw[b (λc=>h<|by simp[c]),Iv<|λc=>h<|by simp[c]]
def Dw{K:DK}(ax:ab)(c:cS ae)(h:cf a b o k)(A:cH a o.aM K)(V:¬K.aO o.aM b)(hr:Row a 1 ax (y c) (c.map Value.string))(W:∀av,cz ax=H av->av<z (G a)/\¬K.aO o.aM av)(l:c.Nodup)(n:∀ba∈c,∃T,dB (vw K.files) ba=H T)(hm:y K.dM+y c<=1000000000000):cD aZ 59 #[aA b,ax] a λaF w'=>aF=aJ .nilIface/\∃Q,oA a w' o.aM K Q/\vw Q.files=uK (vw K.files) c/\y Q.dM=y K.dM+y c:=by
 have au:=ar h;rcases hr with⟨w,⟨rfl,X⟩|⟨aD,p,ac,rfl,an,hc⟩⟩;(.obtain rfl:=aP X;have q:=Y<|oA.refl A;clear h A V W l n w X;(go_in);go_wp2;(go_loopw [10] (λB wr=>B=aq 0/\wr=a) (λ_ _=>0));(case atStart=>grind);(case round=>obtain⟨rfl,d⟩:=hrel;subst wr;go_wp2;go_ret;exact⟨rfl,K,q,rfl,rfl⟩));(.have hb:=W aD rfl;obtain⟨HB,HC,HN,N,O,C⟩:=kY h hc V l n<|oA.refl A;clear h A V W l n w hc;(go_in);go_wp2;(go_loopw [10] (λB wr=>∃(m:M)(i:DK),m<=y c/\B=aq m/\oA a wr o.aM K i/\vw i.files=uK (vw K.files) (c.take m)/\y i.dM=y K.dM+m) (λB _=>y c-(intOf B).toNat));(case atStart=>exact⟨0,K,bG _,rfl,C,rfl,rfl⟩);(case round=>obtain⟨m,i,ao,rfl,j,d,f⟩:=hrel;by_cases e:m<y c;(.have ad:aS wr (R aD<|p+m)=H (am c[m]):=j.ap.cell (HC m _ (by rw[fc,aN e];rfl)) hb.2 hb.1;have s:=HB.ap j.ap HN;have c2:=cf.cellAt s 2 rfl;(have g:c[m]∉c.take m:=by intro aV;obtain⟨B,hi,he⟩:=dR aV;(have al:B<m/\B<y c:=by grind);rw[jY]at he;have:=(List.nodup_iff_pairwise_ne.1 N);grind[pairwise_iff_getElem]);obtain⟨T,r⟩:=O _<|ak e;(have hg:dB (vw i.files) c[m]=H T:=by rw[d,sQ g];exact r);obtain⟨aU,hF,_⟩:=gR hg;have x:=MO c[m] aU j.ok hF (by omega);obtain⟨P,q,L⟩:=dz (show uK (vw K.files) (c.take<|m+1)=uL (vw i.files) c[m]by rw[aj e,Nz,d]) j f;clear j d f s g hg hF r;generalize c[m]=aa at*;(go_wp2_with fail);apply x.mono;rintro aF w1⟨rfl,S,t,u,v⟩;obtain⟨D,E,F⟩:=dz (q.trans t) (show vw S.files=uK (vw K.files) (c.take<|m+1)by rw[af P,u,Sd]) (show y S.dM=y K.dM+(m+1)by rw[v,af L];omega);clear t u v x;go_wp2;go_roundw;(case rel=>exact⟨m+1,S,e,by go_num,D,E,F⟩);case measure=>simp[intOf];omega);(have g:m=y c:=by omega);subst g;rw[bL]at d;obtain⟨q,s,r⟩:=dz j d f;clear j d f;go_wp2;go_ret;exact⟨rfl,i,q,s,r⟩))
def Us(h:cH a b L)(cl:∀f∈L.files,y f.bytes<=1099511627776)(K:((vw L.files).map (·.1)).Nodup):cD aZ 8 #[.pointer<|H ⟨b,0,none⟩] a λcb w'=>∃g K',cb=.returned (.pointer<|H ⟨g,0,none⟩)/\cH w' g K'/\(vw K'.files).Perm (vw L.files)/\K'.dM=[]/\(∀k,K'.aO g k->z (G a)<=k)/\I (λ_=>False) a w':=by
 have eg:aS a ⟨b,0,none⟩=H (.map<|H L.nb):=by rw[bV h.iy];rfl
 have ei:aS a ⟨b,3,none⟩=H (.int .i64 1099511627776):=by rw[bV h.iy];rfl
 have ch:=wJ a;obtain⟨HD,HB,HN⟩:=dz h cl K;clear h cl K;go_in
 go_wp2_with fail
 apply ch.mono;rintro cb w1⟨rfl,q,ck⟩;have ad:I (λ_=>False) a w1:=I.aQ ck;have aa:=(af HD).ap ad<|λ_ _=>id;have fg:aS w1 ⟨b,0,none⟩=H (.map<|H L.nb):=by rw[bV aa.iy];rfl
 obtain⟨g,bd⟩:∃g,z (G a)+2=g:=⟨_,rfl⟩;rw[bd]at q|-;obtain⟨K1,C⟩:∃K1,iM (z<|G a)=K1:=⟨_,rfl⟩;rw[C]at q;have cE:K1.dM=[]:=by rw[<-C];rfl
 have cn:K1.files=[]:=by rw[<-C];rfl
 have aD:∀k,K1.aO g k->z (G a)<=k:=by intro k n;rw[<-C,<-bd]at n;rcases n with d|d|d|d|⟨gg,hx,d⟩|⟨gi,hg,d⟩;omega;have:k=z (G a):=d;omega;have:k=z (G a)+1:=d;omega;cases d;cases hx;cases hg
 obtain⟨bv,fv,w,bT,au,eb,dv⟩:=yt aa.now aa q ad aD cE cn;have ex:=ad.size;clear ch ck ad aa q aD cE cn C bd eg ei
 go_wp2_with(first
  |(at_range;refine qJ _ rfl _ 69 rfl 9 74 underlying69 L.nb _ rfl (af bv) ?_;intro w0 aF cu es;have bq:=Y aF;have A:=Y cu;clear aF cu))
 go_frame
 obtain⟨rb,dk⟩:∃rb,z (G w1)=rb:=⟨_,rfl⟩;rw[dk]at bq|-;have fn:z (G a)<=rb:=by omega
 obtain⟨bm,ed,bp⟩:=dz ((af w).ap (I.dW (S:=λ_=>False) (af A)<|by simp)<|λ_ _=>id) ((af bT).bW<|I.dW (S:=λ_=>False) (af A)<|by simp) (show∀k,K1.aO g k->z (G a)<=k/\k≠rb fromλk n=>⟨(af au) k n,by have:=(af w).lt k n;omega⟩);clear w bT au A ex es dk;go_loopw [4] (λ_ wr=>∃(fb:cS cX)(K':DK),(vw K'.files++vw fb).Perm (vw L.files)/\K'.dM=[]/\cH wr g K'/\(∀k,K'.aO g k->z (G a)<=k/\k≠rb)/\pj wr L.nb rb (L.files.map cX.nm) (fb.map cX.nm)/\(∀f∈fb,f∈L.files)/\I (λ_=>False) a wr) (λ_ wr=>wr.rangeLeft L.nb rb)
 (case atStart=>refine⟨L.files,K1,?_,af eb,af bm,af bp,af bq,λ_ d=>d,af ed⟩;rw[af dv];exact np _)
 case round=>
  obtain⟨fb,K',hp,hm,cm,cs,cx,hL,ht⟩:=hrel;obtain⟨bt,HT,HP,bn,l,HL,HM⟩:=yt cx ht hp cm cs hL hm;clear cx ht hp cm cs hL hm;go_wp2_with(first
   |(at_next;refine pF _ rfl _ rfl L.nb rb _ _ rfl (af bt) ?_ ?_))
  .intro c;obtain rfl:fb=[]:=by simpa using c
   go_wp2;go_ret;refine⟨g,rfl,K',af bn,?_,af HM,λk n=>((af l) k n).1,af HT⟩;have:=af HP;simpa[vw]using this
  .intro gf pk pv fr m ds aU cv et gb;obtain⟨fs,f,fu,rfl,rfl,dc,rfl⟩:=DM ds;simp only[cX.nm,kT,iZ]at dc;obtain⟨rfl,rfl⟩:=dc;have bl:I (λk=>k=rb) wr m:=fj cv;have V:I (λ_=>False) a m:=(af HT).trans bl (λgg hx=>.inr<|by omega);have r:=(af bn).ap bl<|λk n cb=>((af l) k n).2 cb;have co:f∈L.files:=(af HL) f (by simp);have cp:=(af HD).files f co;have j:=cp.ap V id<|λ_ _ d=>d;have bf:=GC (v:=f.data) (bs:=f.bytes) (w:=m.drew) (j.2.1.bytes.of_heap rfl) ((af HB) f co)<|λk n=>((bK j.2.1 k n).2:k<z (G m));have eq:=ar j.1;have k0:aS m.drew ⟨g,0,none⟩=H (.map<|H K'.nb):=by rw[bH,bV r.iy];rfl
   have kd:aS m.drew ⟨f.oM,0,none⟩=H f.data:=by rw[bH,bV j.1];rfl
   obtain⟨fe,fd,ek⟩:=aC j.2.1;have aV:=ar r.iy;obtain⟨c,B,x,dx⟩:=fX r V aU j;clear ds aU cv et bl V r cp j;rw[ek]at kd bf;go_wp2_with fail
   rename_i QQ KK ce;refine dL (λe=>aS e ⟨g,0,none⟩=H (.map<|H K'.nb)/\aS e ⟨f.oM,0,none⟩=H (.slice fe (y f.bytes) fd)) 17 (by kernel_rfl) ?_;have bb:=And.intro k0 kd;refine eR 0 ?_;iterate 9 (refine zr (v:=?_) bb rfl (by kernel_rfl) (λ_ _ _ h=>h) (Or.inl ⟨by rfl,?_⟩) ?_;rotate_left;(focus(rintro e⟨z0,z1⟩;go_simp;try with_reducible rfl));try simp only[Act.put,Nat.reduceAdd,cP,ee,dQ])
   apply ig;refine eR 10 ?_;iterate 5 (refine zr (v:=?_) bb rfl (by kernel_rfl) (λ_ _ _ h=>h) (Or.inl ⟨by rfl,?_⟩) ?_;rotate_left;(focus(rintro e⟨z0,z1⟩;go_simp;try with_reducible rfl));try simp only[Act.put,Nat.reduceAdd,cP,ee,dQ])
   apply ig;refine bC (i:=9) rfl rfl (by kernel_rfl) ?_;intro K9 cd;go_simp;apply bf.mono;rintro cb p⟨v3,rfl,bk,bc⟩;obtain⟨x3,c3,ev⟩:=aC bk;subst ev;have P:I (λ_=>False) m p:=(cR (λ_=>False) m).bW<|I.aQ (S:=λ_=>False) bc;have D:aS p ⟨g,0,none⟩=H (.map<|H K'.nb)/\aS p ⟨f.oM,0,none⟩=H (.slice fe (y f.bytes) fd):=⟨P.cell (by rw[bH]at k0;exact k0) id aV,P.cell (by rw[bH]at kd;exact kd) id eq⟩;refine cd _ _ (λ_=>D) ?_;try simp only[Act.put,cP,ee,dQ]
   refine lu (i:=15) (v:=?_) rfl rfl (by kernel_rfl) (by kernel_rfl) (by kernel_rfl) (by kernel_rfl) (λ_ _ _ h=>h) (Or.inl ⟨by rfl,?_⟩) D ?_;rotate_left
   .rintro e⟨z0,z1⟩;go_simp;try with_reducible rfl
   try simp only[Act.put,cP,ee,dQ]
   refine bC (i:=16) rfl rfl (by kernel_rfl) ?_;intro fx av;go_simp;have dm:=P.size;refine av _ _ (λ_=>⟨by rw[fo<|by omega];exact D.1,by rw[fo<|by omega];exact D.2⟩) ?_;try simp only[Act.put,cP,ee,dQ]
   obtain⟨W4,E⟩:∃W4,cG p (.cells #[.slice x3 (y f.bytes) c3,.int .i64<|y f.bytes] 78)=W4:=⟨_,rfl⟩;rw[E];have al:I (λ_=>False) m W4:=by rw[<-E];exact P.alloc _
   have cT:W4.heap[z<|G p]?=H (.cells #[.slice x3 (y f.bytes) c3,.int .i64<|y f.bytes] 78 (0,0)):=by rw[<-E];exact aH _ rfl
   have db:W4.ownsRow (z<|G m.drew) 5 1 (.slice x3 (y f.bytes) c3) (y f.bytes) (f.bytes.map<|Value.int .u8):=by rw[<-E];exact aX bk _
   have F:=(af c).now.ap al id;refine bC (i:=17) rfl rfl (by kernel_rfl) ?_;intro fz ax;try simp only[cQ,cq,cy]
   refine zL (.tmp 24) (.tmp 25) (.tmp 37) 69 rfl 9 74 underlying69 underlying9 K'.nb _ rfl F f.name (.pointer<|H ⟨z<|G p,0,none⟩) rfl rfl ?_;intro W ac bh dn;refine ax _ _ Fc ?_;refine eN (by kernel_rfl) ?_ _;show KK _ _;apply ce;have N:f.name∉K'.files.map cX.name:=by
    have hp:=(af HP).map<|λ(gg:ae×dN)=>gg.1;have K:=hp.nodup_iff.2<|af HN;rw[aR,jd]at K;intro hc;refine K.2.2 f.name ?_ f.name ?_ rfl
    .simpa[vw]using hc
    .simp[vw]
   have s:=Lb N;rw[Dy s]at ac;have an:I (λk=>k=K'.nb) m W:=(al.mono (T:=λk=>k=K'.nb) cC).trans (fj bh)<|λ_ d=>.inl d;have ej:g≠K'.nb:=qN (af c).now (af c).iy;have fL:g≠K'.sb:=qN (af c).safe (af c).iy;have bi:W.heap[g]?=m.heap[g]?:=an.block g aV ej;have y0:aS W.drew ⟨g,0,none⟩=H (.map<|H K'.nb):=by rw[bH,bV<|bi.trans (af c).iy];rfl
   have y1:aS W.drew ⟨g,1,none⟩=H (.map<|H K'.sb):=by rw[bH,bV<|bi.trans (af c).iy];rfl
   have O:gl W K'.sb K'.sm:=(af c).safe.ap an<|λcb=>(af c).ne cb.symm;have cB:=La (v:=.pointer<|H ⟨z<|G p,0,none⟩) s;have ba:gl W.drew K'.nb (K'.files.map cX.nm++[(f.name,.pointer<|H ⟨z<|G p,0,none⟩)]):=ac.ap (cR (λ_=>False) W) id;have t:gl W.drew K'.sb K'.sm:=O.ap (cR (λ_=>False) W) id;obtain⟨j0,el,eo,em,en⟩:=cU rh;clear em en;obtain⟨ef,bu,X,ec,dT⟩:=jk an cT db ac bh;have bE:=Y t;obtain⟨eB,ea,ey,eA,bx⟩:=jk al cB s N<|And.intro dm dn;clear cB s N dm dn ce cd av ax bb D k0 kd bk bc bf F ac bh O t bi cT db an al P E;go_wp2_with fail
   have cj:=And.intro y0 (And.intro y1 ba);clear y0 y1 ba;refine dL (λe=>aS e ⟨g,0,none⟩=H (.map<|H K'.nb)/\aS e ⟨g,1,none⟩=H (.map<|H K'.sb)/\gl e K'.nb (K'.files.map cX.nm++[(f.name,.pointer<|H ⟨z<|G p,0,none⟩)])) 11 (by kernel_rfl) ?_;refine eR 0 ?_;iterate 10 (refine zr (v:=?_) cj rfl (by kernel_rfl) (λ_ _ _ h=>h) (Or.inl ⟨by rfl,?_⟩) ?_;rotate_left;(focus(rintro e⟨z0,z1,z2⟩;go_simp;try rfl));simp only[Act.put,Nat.reduceAdd,cP,ee,dQ,cQ,cq,cy])
   apply ig;refine lu (i:=10) (v:=.pointer<|H ⟨z<|G p,0,none⟩) rfl rfl (by kernel_rfl) (by kernel_rfl) (by kernel_rfl) (by kernel_rfl) (λ_ _ _ h=>h) (Or.inl ⟨by rfl,?_⟩) cj ?_
   .rintro e⟨z0,z1,z2⟩;have bg:=qW underlying69 underlying9 el eo z2 f.name;rw[af ea]at bg;simp only[lP]at bg;clear z0 z1 z2;go_simp;try with_reducible rfl
   simp only[Act.put,cP,ee,dQ,cQ,cq,cy];refine bC (i:=11) rfl rfl (by kernel_rfl) ?_;intro fw cc;try simp only[cQ,cq,cy]
   refine zL (.tmp 41) (.tmp 42) (.tmp 48) 69 rfl 9 74 underlying69 underlying9 K'.sb _ rfl (af bE) f.name (.pointer<|H ⟨z<|G p,0,none⟩) rfl rfl ?_;intro w6 cM cw eu;refine cc _ _ Fc ?_;refine eN (by kernel_rfl) ?_ _;have ao:I (λk=>k=K'.sb) W w6:=(cR (λk=>k=K'.sb) W).trans (fj cw)<|λ_ d=>.inl d;have o:I (λk=>k=K'.nb\/k=K'.sb) m w6:=((af ef).mono (T:=λk=>k=K'.nb\/k=K'.sb)<|λ_ d=>.inl<|.inl d).trans ao<|λ_ d=>.inl<|.inr d;have Q:I (λk=>k=K'.nb\/k=K'.sb) W4 w6:=((I.dW (S:=λk=>k=K'.nb\/k=K'.sb) (af dT)<|by grind)).trans ao<|λ_ d=>.inl<|.inr d;have u:=Y<|show z (G m)<=z (G p)/\True from⟨(af bx).1,trivial⟩;have fk:=(af c).lt K'.nb<|.inr<|.inl rfl;have fl:=(af c).lt K'.sb<|.inr<|.inr<|.inl rfl;have bo:=Y<|(af c).add (f:=⟨f.name,z<|G p,.slice x3 (y f.bytes) c3,f.bytes,y f.bytes⟩) (af HM) o ((af ec).ap ao<|λcb=>(af c).ne cb) cM ⟨(Q.block _ (ar<|af bu) (λd=>by have:=(af u).1;rcases d with d|d<;>omega)).trans<|af bu,fM (Q.own (af X) (λk n d=>by have:=((af X).lt k n).1;have cb:z (G m.drew)=z (G m):=rfl;rcases d with d|d<;>omega))<|bG _,(af dx).2.2⟩ (af u).1<|λk n=>((af X).lt k n).1;have ca:=Y ((af B).trans o (λk d=>by
    have h1:=((af l) K'.nb<|.inr<|.inl rfl).1;have h2:=((af l) K'.sb<|.inr<|.inr<|.inl rfl).1;rcases d with d|d
    .grind
    grind))
   have ff:L.nb<z (G a):=(af HD).lt L.nb<|.inr<|.inl rfl;have br:=Y ((af x).kept (o.block _ (by have:=(af B).size;omega) (λd=>by
    have h1:=((af l) K'.nb (.inr (.inl rfl))).1;have h2:=((af l) K'.sb (.inr (.inr (.inl rfl)))).1;rcases d with d|d<;>omega)) (o.block _ (af x).lt (λd=>by
     have h1:=((af l) K'.nb (.inr (.inl rfl))).2;have h2:=((af l) K'.sb (.inr (.inr (.inl rfl)))).2;rcases d with d|d<;>omega)))
   clear cM cw eu ao o Q;go_wp2;go_roundw;case rel=>
    obtain⟨er,bg⟩:=af bo;refine⟨fs++fu,{K' with files:=K'.files++[⟨f.name,z<|G p,.slice x3 (y f.bytes) c3,f.bytes,y f.bytes⟩],sm:=K'.sm.put f.name (.pointer<|H ⟨z<|G p,0,none⟩)},?_,af HM,er,?_,?_,λgi hg=>(af HL) gi ?_,af ca⟩
    .refine List.Perm.trans ?_<|af HP;show List.Perm (vw (K'.files++[⟨f.name,z<|G p,.slice x3 (y f.bytes) c3,f.bytes,y f.bytes⟩])++vw (fs++fu)) (vw K'.files++vw (fs++f::fu));simp only[vw,aR,cr,gQ,bz,ju];exact qd _ ul.symm
    .intro k n;have bc:=(af u).1;have ge:=(af B).size;have gc:=(af x).lt;rcases bg k n with d|d|d
     .exact(af l) k d
     .have:k=z (G p):=d;grind
     .have:=((af X).lt k d).1;have cb:z (G m.drew)=z (G m):=rfl;grind
    .rw[aR];exact af br
    .simp only[aG,bR]at hg|-;grind
   case measure=>rw[(af br).left_eq,(af bt).left_eq];simp
