import Derived.BigCall
import Derived.BigGuard
import Derived.BigRegion
import Derived.CellFam
import Derived.Ground.NamesProg
import Derived.Lib.AppendIntMem
import Derived.Lib.Hide
import Derived.Lib.ItoaLen
import Derived.Lib.ItoaMem
import Derived.Lib.ItoaWalk
import Derived.Lib.Walk
import Derived.Shelf.Strconv.Itoa1
import Derived.Shelf.Strconv.Itoa2
import Derived.Test.YtgbhcncpienkcaaGreatDoorC3
import Derived.Test.YtgbhcncpienkcaaGreatDoorC4
open _root_ renaming List.length→y,Option.some→H,Array.size→z,Go.World.heap→G,Go.Value.ownBlock→ct,Go.World.cell?→aO,Go.World.setCell→cA,Go.World.alloc→cF,Bool.false→aY,Bool.true→bU,Nat→M,Int→Z,List→cw,Go.Calls→cD,Go.undef→ix,Go.Proofs.Tryz.prog→bz,Go.Value.slice→J,Go.Value.string→aj,Go.Value.bool→aK,Go.Value.pointer→fj,Go.Value.tuple→dw,Go.Value.agg→dW
namespace Go.Proofs.YtgbhcncpienkcaaGreatDoor
open ChangeShapes WideShapes RowKit Proofs.Tryz List
set_option maxHeartbeats 16000000
set_option linter.all false
set_option maxRecDepth 100000
variable{a f C:Y}{b c g l A Q:M}{d u N:aa}{e L:cJ}{j P:DK}{k:dL}{m K:Z}{n:SR}{p:eO}{X:fA}{t:iY}{W:ab}{w:E}{x:iC}{B:mq}{D:Bool}{T:Type}{V:Array aa}
section
open Shelf
def MH:Go.Shelf.Ren:=⟨λ|283=>265|n=>n,λ|3=>3|9=>9|4=>4|n=>n,λ|n=>n⟩
def Tryz.lays283:Go.Proofs.Lays.n283 bz MH:={mixed:=by kernel_rfl,f283:=func265.trans (bX H<|by kernel_rfl),t3:=underlying3,a3:=isAgg3,z3:=sizeOf3,v3:=zeroValue3,t4:=underlying4,a4:=isAgg4,z4:=sizeOf4,v4:=zeroValue4,t9:=underlying9,a9:=isAgg9,z9:=sizeOf9,v9:=zeroValue9}
def MG:Go.Shelf.Ren:=⟨λ|284=>266|129=>140|317=>281|318=>282|n=>n,λ|53=>98|3=>3|212=>402|0=>0|4=>4|46=>46|5=>5|9=>9|n=>n,λ|17=>2|n=>n⟩
def Tryz.lays284:Go.Proofs.LaysM.n284 bz MG:={mixed:=by kernel_rfl,f129:=func140.trans (bX H<|by kernel_rfl),f284:=func266.trans (bX H<|by kernel_rfl),f317:=func281.trans (bX H<|by kernel_rfl),f318:=func282.trans (bX H<|by kernel_rfl),t0:=underlying0,a0:=isAgg0,z0:=sizeOf0,v0:=zeroValue0,t3:=underlying3,a3:=isAgg3,z3:=sizeOf3,v3:=zeroValue3,t4:=underlying4,a4:=isAgg4,z4:=sizeOf4,v4:=zeroValue4,t5:=underlying5,a5:=isAgg5,z5:=sizeOf5,v5:=zeroValue5,t9:=underlying9,a9:=isAgg9,z9:=sizeOf9,v9:=zeroValue9,t46:=underlying46,a46:=isAgg46,z46:=sizeOf46,v46:=zeroValue46,t53:=underlying98,a53:=isAgg98,z53:=sizeOf98,v53:=zeroValue98,t212:=underlying402,a212:=isAgg402,z212:=sizeOf402,v212:=zeroValue402,g17:=by kernel_rfl,i0:=by kernel_rfl,i3:=by kernel_rfl,i4:=by kernel_rfl,i5:=by kernel_rfl,i9:=by kernel_rfl,i46:=by kernel_rfl,i53:=by kernel_rfl,i212:=by kernel_rfl,m17:=by kernel_rfl}
def MF:Go.Shelf.Ren:=⟨λ|285=>267|n=>n,λ|37=>135|53=>98|3=>3|4=>4|51=>91|9=>9|5=>5|0=>0|n=>n,λ|n=>n⟩
def Tryz.lays285:Go.Proofs.Lays.n285 bz MF:={mixed:=by kernel_rfl,f285:=func267.trans (bX H<|by kernel_rfl),t0:=underlying0,a0:=isAgg0,z0:=sizeOf0,v0:=zeroValue0,t3:=underlying3,a3:=isAgg3,z3:=sizeOf3,v3:=zeroValue3,t4:=underlying4,a4:=isAgg4,z4:=sizeOf4,v4:=zeroValue4,t5:=underlying5,a5:=isAgg5,z5:=sizeOf5,v5:=zeroValue5,t9:=underlying9,a9:=isAgg9,z9:=sizeOf9,v9:=zeroValue9,t37:=underlying135,a37:=isAgg135,z37:=sizeOf135,v37:=zeroValue135,t51:=underlying91,a51:=isAgg91,z51:=sizeOf91,v51:=zeroValue91,t53:=underlying98,a53:=isAgg98,z53:=sizeOf98,v53:=zeroValue98}
end
section
open Shelf Go.Sort
def Pow(w:Y):Prop:=Lib.TabIs bz w "internal/strconv.uint64pow10" .u64 Lib.pow10Tab
def EL:prog.globalNamed "internal/strconv.uint64pow10" =H 2:=by kernel_rfl
def Pow.di{w w':Y}(h:Pow w)(a:w'.heap[2]?=w.heap[2]?):Pow w':=by
 unfold Pow Lib.TabIs World.var? at*;rw[EL]at*;grind
def Pow.lt(h:Pow a):2<z (G a):=by
 unfold Pow Lib.TabIs World.var? at h;rw[EL]at h;grind
def Pow.aw{S:fA}{w w':Y}(h:Pow w)(c:I S w w')(a:¬S 2):Pow w':=h.di<|c.block _ h.lt a
def FN(u:M):ab:=⟨(Lib.decDigits u).toArray⟩
def GI(u:M)(c:u<18446744073709551616)(t:Pow a):cD bz 231 #[aJ u,ap 10] a λn e=>n=aL (aj<|FN u)/\Below (z<|G a) a e:=by
 by_cases i:u<100;(.have b:∀W,cD bz 265 #[ap u] W λn e=>n=aL (aj<|FN u)/\e=W:=λW=>Any.internal_strconv_small Tryz.lays283 u i W;(have d:(u:Z)<100:=by omega);(have f:IntKind.i64.wrap (u:Z)=(u:Z):=by rw[bw];omega);clear t;(go_in);(go_wp2_with(go_at_call 265;refine(b _).mono ?_;rintro n e⟨rfl,rfl⟩));go_ret;exact⟨rfl,Below.refl _ _⟩)
 .have m:1<=u:=by omega
  have s:Lib.nDigits u<=20:=by have:=Lib.numDigits_eq u m c;split at this<;>omega
  have g:prog.arrayLen 390=24:=by kernel_rfl
  have x:∀W,(Instr.sliceAt 390 (ay<|z<|G a) none (H<|ap (Lib.nDigits u:Z)) none).run bz W=.ok (bB (z<|G a) 0 (Lib.nDigits u) 24) W:=λW=>by
   rw[run_sliceAt_array_h W 390 (R (z<|G a) 0) (by kernel_rfl) .i64 (Lib.nDigits u:Z) (by omega) (by rw[g];omega)];rw[g];have r:(sizeOf<|prog.elem 390).run bz W=.ok 1 W:=by kernel_rfl
   rw[r];simp[Result.andThen,slicedAt,Lib.add_plain]
  have f:=Lib.holds_zero0 a 390 (Lib.nDigits u) (by omega);have j:cD bz 267 #[bB (z<|G a) 0 (Lib.nDigits u) 24,aJ u] (cF a<|ar Lib.zeros24 390) λn e=>
   n=aL (dw #[])/\(∃(d:M)(b:Array UInt8),e=(putRow (λ(i:UInt8)=>tL (i.toNat:Z)) (cF a<|ar Lib.zeros24 390) (z<|G a) 0 b).drewN d/\∃p,Lib.FmtInv (Lib.nDigits u) u 0 p b):=by
    have:=Any.internal_strconv_formatBase10 Tryz.lays285 (z<|G a) 0 24 u (Array.replicate (Lib.nDigits u) 0) (cF a<|ar Lib.zeros24 390) f (by rw[nL];exact Lib.lt_pow_nDigits u) c (by rw[nL];omega);rw[nL]at this;apply this.mono;grind
  have k:∀W,Pow W->cD bz 266 #[aJ u] W λn e=>n=aL (ap<|Lib.nDigits u)/\e=W:=λW a=>Any.internal_strconv_numDigits Tryz.lays284 u m c W a;have l:=k (cF a<|ar Lib.zeros24 390)<|Lib.tabIs_alloc t _;have q:=U f;have B:(100:Z)<=(u:Z):=by omega
  have d:=U (show∀(o:M)(b:Array UInt8),(∃p,Lib.FmtInv (Lib.nDigits u) u 0 p b)->(convert 135 9<|bB (z<|G a) 0 (Lib.nDigits u) 24).run bz ((putRow (λ(i:UInt8)=>tL (i.toNat:Z)) (cF a<|ar Lib.zeros24 390) (z<|G a) 0 b).drewN o)=.ok (aj<|FN u) ((putRow (λ(i:UInt8)=>tL (i.toNat:Z)) (cF a<|ar Lib.zeros24 390) (z<|G a) 0 b).drewN o)/\Below (z<|G a) a ((putRow (λ(i:UInt8)=>tL (i.toNat:Z)) (cF a<|ar Lib.zeros24 390) (z<|G a) 0 b).drewN o)from by
   rintro o b⟨p,hF⟩;constructor
   .have h:=vK (P:=bz) ((putRow (λ(i:UInt8)=>tL (i.toNat:Z)) (cF a<|ar Lib.zeros24 390) (z<|G a) 0 b).drewN o) 135 9 5 (R (z<|G a) 0) 24 (Lib.decDigits u) (by kernel_rfl) (by kernel_rfl) (by kernel_rfl) (λA r=>by
     rw[Lib.row_is_numeral hF A r,Lib.add_plain,World.cell?_drewN];exact cell?_putRow (λ(i:UInt8)=>tL (i.toNat:Z)) _ (z (G a)) 0 _ b q (by rw[hF.size,nL]) A (by rw[hF.size];rw[Lib.decDigits_length]at r;exact r))
    rw[Lib.decDigits_length]at h;exact h
   .obtain⟨A,r⟩:=Lib.fin_at a (ar Lib.zeros24 390) b o 0;rw[r];exact Lib.below_grow _ a (ai _) o A)
  clear f g k t;unfold Lib.zeros24 at*;go_in
  go_wp2_with(first
   |(go_at_call 266;refine l.mono ?_;rintro n C⟨rfl,rfl⟩)
   |(go_at_call 267;refine j.mono ?_;rintro n D⟨rfl,o,b,rfl,hF⟩;have w:=(d o b hF).1;have v:=U (d o b hF).2;clear hF))
  go_ret;exact⟨rfl,v⟩
def tz(u:M)(b:u<18446744073709551616)(d:Pow a):cD bz 171 #[aJ u,ap 10] a λg f=>g=aL (aj<|FN u)/\Below (z<|G a) a f:=by
 have h:=GI u b d;clear d;go_in
 go_wp2_with(go_at_call 231;refine h.mono ?_;rintro g i⟨rfl,c⟩;have e:=U c;clear c)
 go_ret;exact⟨rfl,e⟩
end
def Qd(l:cw UInt8):M:=l.foldl (λa d=>a*10+(d.toNat-48)) 0
def zp(u:M):Qd (Lib.decDigits u)=u:=by
 induction u using Nat.strongRecOn with
 |ind u a=>
  rw[Lib.decDigits];split
  .rename_i h;unfold Qd;grind[UInt8.toNat_ofNat']
  .rename_i h;have:=a (u/10) (by omega);unfold Qd at*;rw[iL,this];grind[UInt8.toNat_ofNat']
def Zm:ab:=⟨#[116,97,98,108,101,45]⟩
def C9:ab:=⟨#[108,111,103,45]⟩
def gP:ab:=⟨#[115,116,97,116,101]⟩
def vf:ab:=⟨#[115,116,97,116,101,46,110,101,119]⟩
def fC(u:M):ab:=Zm++FN u
def iQ(u:M):ab:=C9++FN u
def NG(a b:ab):(a++b).data.toList=a.data.toList++b.data.toList:=by simp
theorem wG{b:ab}(h:W=b):W.data.toList=b.data.toList:=by rw[h]
theorem uZ(u:M):(fC u).data.toList=[116,97,98,108,101,45]++Lib.decDigits u:=by unfold fC;rw[NG];rfl
theorem BS(u:M):(iQ u).data.toList=[108,111,103,45]++Lib.decDigits u:=by unfold iQ;rw[NG];rfl
theorem sS(h:fC b=fC c):b=c:=by
 have:=wG h;rw[uZ,uZ,List.append_cancel_left_eq]at this;rw[<-zp b,this,zp]
theorem mZ(u v:M):fC u≠iQ v:=by
 grind[wG,uZ,BS]
theorem vY(u:M):fC u≠gP:=by
 intro h;have:=wG h;rw[uZ]at this;simp[gP]at this
theorem Eh(u:M):fC u≠vf:=by
 intro h;have:=wG h;rw[uZ]at this;simp[vf]at this
theorem sq(u:M):iQ u≠gP:=by
 intro h;have:=wG h;rw[BS]at this;simp[gP]at this
theorem Pv(u:M):iQ u≠vf:=by
 intro h;have:=wG h;rw[BS]at this;simp[vf]at this
def Jk:gP≠vf:=by
 intro h;have:=wG h;simp[gP,vf]at this
def IC(u:M)(h:u<18446744073709551616):(FN u).size<=20:=by
 have a:(FN u).size=y (Lib.decDigits u):=by simp[FN,ByteArray.size]
 rw[a,Lib.decDigits_length];exact Lib.nDigits_le20 u h
def By(u:M)(b:u<18446744073709551616)(d:Pow a):cD bz 193 #[aJ u] a λg f=>g=aL (aj<|fC u)/\Below (z<|G a) a f:=by
 have h:=tz u b d;have i:=IC u b;clear d;go_in
 go_wp2_with(go_at_call 171;refine h.mono ?_;rintro g j⟨rfl,c⟩;have e:=U c;clear c)
 go_ret;exact⟨rfl,e⟩
def wu(u:M)(b:u<18446744073709551616)(d:Pow a):cD bz 103 #[aJ u] a λf w'=>f=aL (aj<|iQ u)/\Below (z<|G a) a w':=by
 have h:=tz u b d;have g:=IC u b;clear d;go_in
 go_wp2_with(go_at_call 171;refine h.mono ?_;rintro f i⟨rfl,c⟩;have e:=U c;clear c)
 go_ret;exact⟨rfl,e⟩
def DQ{e cut f i:Z}(h:lS a b (fj none) e cut f i c g l d B):cD bz 165 #[ay b] a λm k=>m=aL (aK aY)/\k=a:=by
 have j:=cellAt h.box 0 rfl;clear h;go_in
 go_wp2;go_ret;simp_all
def Cx(m:Addr){e cut f i:Z}(h:lS a b (fj<|H m) e cut f i c g l d B):cD bz 165 #[ay b] a λn k=>n=aL (aK bU)/\k=a:=by
 have j:=cellAt h.box 0 rfl;clear h;go_in
 go_wp2;go_ret;simp_all
def Fh(a cut b c:Z):aa:=dW #[aJ a,dq cut,dq b,dq c]
def Jq{c:Func}{p:Tmp}(m:c.results=#[.cell p 289])(a:Array aa)(w:Y)(g:M)(e f h i:Z)(t:TypeId)(d:M×M)(l:a.getD p ix=ay g)(j:w.heap[g]?=H (ar #[aJ e,dq f,dq h,dq i] t d)):(results c a).run bz w=.ok (Fh e f h i) w:=by
 have b:a[p]?.getD ix=ay g:=by simpa using l
 have k:=kJ (P:=bz) w g t 289 #[aJ e,dq f,dq h,dq i] d _ j underlying289 rfl (by kernel_rfl);simp[results,m,b,asAddr,k,Fh]
def VK{e cut f i:Z}(h:lS a b d e cut f i c g l u B):cD bz 228 #[ay b] a λq p=>q=aL (Fh e cut f i)/\Below (z<|G a) a p:=by
 have j:=cellAt h.box 1 rfl;have k:=cellAt h.box 2 rfl;have m:=cellAt h.box 3 rfl;have n:=cellAt h.box 4 rfl;have o:=am h.box;clear h;go_in
 go_wp2;refine cP (Jq rfl _ _ (z<|G a) e cut f i _ _ rfl<|aB _ rfl) rfl ?_;exact⟨rfl,(Below.refl _ a).alloc (ai _) _⟩
theorem CE(c:M)(n:aa)(u:M)(f:u<18446744073709551616)(cut d i:Z)(m e b:M)(g:aa)(q:mq)(h:lS a c n u cut d i m e b g q)(k:Pow a):cD bz 123 #[ay c] a λs r=>s=aL (aj<|fC u)/\Below (z<|G a) a r:=by
 have o:=cellAt h.box 1 rfl;have p:=By u f k;clear h k;go_in
 go_wp2_with(go_at_call 193;refine p.mono ?_;rintro s t⟨rfl,j⟩;have l:=U j;clear j)
 go_ret;exact⟨rfl,l⟩
def Uf{j cut n u:Z}(q i Bb d:M)(o:rE)(h:lS a b (fj none) j cut n u c g l (bB q i Bb d) B)(A:o.pos+o.size<=Bb)(S:Bb<=d)(C:0<o.size)(T:Bb<=1000000000000):cD bz 337 #[ay b,o.value] a λL K=>L=aL (dw #[bB q (i+o.pos) o.size (d-o.pos:M),.nilIface])/\Below (z<|G a) a K:=by
 obtain⟨pos,e,f,first,k⟩:=o;simp only at A C;unfold rE.value;simp only;have r:=am h.box;have m:Below (z<|G a) a (cF a<|ar #[ap pos,ap e,ap f,aj first,aj k] 310):=(Below.refl _ a).alloc (ai _) _;have t:=DQ<|h.below m h.lt.1 h.lt.2;have E:aO (cF a<|ar #[ap pos,ap e,ap f,aj first,aj k] 310) (R b 6)=H (bB q i Bb d):=by rw[pU _ _ _ r,bL h.box];rfl
 have v:∀(x:Bool)(a:Y),(Op.unary .not<|aK x).run bz a=.ok (aK<|!x) a:=λ_ _=>rfl;obtain⟨s,F⟩:∃s,pos+e=s:=⟨_,rfl⟩;have N:(pos:Z)+(e:Z)=(s:Z):=by omega
 have O:IntKind.i64.wrap (s:Z)=(s:Z):=by rw[bw];omega
 have P:pos<s:=by omega
 have Q:s<=Bb:=by omega
 have p:=U (show e=s-pos by omega);have w:=U m;clear h m F;go_in
 go_wp2_with(go_at_call 165;refine t.mono ?_;rintro L V⟨rfl,rfl⟩)
 go_quiet(fail)
 go_wp2;go_ret2
 have x:=ae p;have D:=ae w;subst x;exact⟨rfl,below_drewN D _⟩
def I.of_heap{a b c:Y}(h:I X a b)(j:(c.os,c.tape,c.output,c.heap)=(b.os,b.tape,b.output,b.heap)):I X a c:=by
 obtain⟨e,g,i,d⟩:c.os=b.os/\c.tape=b.tape/\c.output=b.output/\c.heap=b.heap:=by simpa using j
 exact⟨e.trans h.os,g.trans h.tape,i.trans h.output,by rw[d];exact h.size,λk b j=>by rw[d];exact h.block k b j⟩
def ci(S:fA)(w:Y):I S w w.drew:=⟨rfl,rfl,rfl,ai _,λ_ _ _=>rfl⟩
def gD(S:fA)(w:Y)(q:M):I S w (w.drewN q):=⟨rfl,rfl,rfl,ai _,λ_ _ _=>rfl⟩
def cQ.VB(h:cQ a b j){t:TypeId}{k:M×M}(e:a.heap[c]?=H (ar V t k))(m:t≠81)(q:t≠284)(r:t≠331)(n:t≠138)(s:t≠5):¬j.aU b c:=by
 rintro(rfl|rfl|rfl|f|⟨x,o,f⟩|⟨p,i,rfl|f⟩);exact lL e h.iq m rfl;exact h.now.tag e rfl;exact h.safe.tag e rfl;obtain⟨d,g⟩:=fR h.steps f;grind
 obtain⟨d,l,g⟩:=(h.each x o).2.2 c f;grind
 exact lL e (h.files p i).1 n rfl;obtain⟨d,g⟩:=fR (h.files p i).2.1 f;grind
def Qt(ao:g<18446744073709551616){cut v av:Z}(K:rE)(bc:df)(h:lS a b (ay c) g cut v av l A Q d B)(hd:cQ a c j)(hg:sd j.files (fC g)=H bc)(hl:y bc.bytes<=1099511627776)(h1:K.pos+K.size<=y bc.bytes)(h3:0<K.size)(hp:Pow a):cD bz 337 #[ay b,K.value] a λbb q=>∃ba f i,bb=aL (dw #[bB ba f K.size i,.nilIface])/\K.size<=i/\Bytes q (bB ba f K.size i) ((bc.bytes.drop K.pos).take K.size)/\I (j.aU c) a q/\∃r,cQ q c r/\r.files=j.files/\r.eJ=j.eJ/\(∀K,r.aU c K->j.aU c K)/\A8 K.size j r:=by
 obtain⟨pos,e,n,first,w⟩:=K;simp only at h1 h3;unfold rE.value;simp only;have bm:=am h.box;have o:Below (z<|G a) a (cF a<|ar #[ap pos,ap e,ap n,aj first,aj w] 310):=(Below.refl _ a).alloc (ai _) _;have k:=h.below o h.lt.1 h.lt.2;have aq:=Cx (R c 0) k;have bi:∀(bk:Bool)(a:Y),(Op.unary .not<|aK bk).run bz a=.ok (aK<|!bk) a:=λ_ _=>rfl;have N:=cellAt k.box 0 rfl;obtain⟨m,s⟩:∃m,m=cF a (ar #[ap pos,ap e,ap n,aj first,aj w] 310):=⟨_,rfl⟩;have x:Cw m (z<|G a) ⟨pos,e,n,first,w⟩:=by rw[s];exact aB _ rfl
 have au:z (G m)=z (G a)+1:=by rw[s];simp
 have E:b<z (G m):=by omega
 rw[<-s]at o k aq N;have ac:aO m (R (z<|G a) 0)=H (ap pos):=x.cells.1;have ad:aO m (R (z<|G a) 1)=H (ap e):=x.cells.2.1;have X:Pow m:=hp.aw (S:=az) (I.aR o)<|λV=>V;have W:cQ m c j:=hd.aw (S:=az) (I.aR o)<|λ_ _ V=>V;have HN:=U (show∀ax,ax.heap=m.heap->cD bz 123 #[ay b] ax λbb q=>bb=aL (aj<|fC g)/\Below (z<|G ax) ax q fromλax P=>CE b (ay c) g ao cut v av l A Q d B ⟨by rw[P];exact k.box,λj bk e=>by rw[cR (w:=m)<|by rw[P]];exact k.cells j bk e,k.ne,k.le,k.small⟩<|X.di<|by rw[P]);have an:¬j.aU c b:=hd.VB h.box (by decide) (by decide) (by decide) (by decide) (by decide);have O:¬j.aU c (z<|G a):=λV=>by have:=hd.lt _ V;omega
 have HR:=U (show∀ax,Below (z<|G m.drew) m.drew ax->cD bz 179 #[ay c,aj<|fC g,ap pos,ap e] ax λbb q=>∃ba f i,bb=aL (dw #[bB ba f e i,.nilIface])/\(aO q (R b 0)=H (ay c)/\aO q (R (z<|G a) 0)=H (ap pos)/\aO q (R (z<|G a) 1)=H (ap e))/\(e<=i/\Bytes q (bB ba f e i) ((bc.bytes.drop pos).take e)/\I (j.aU c) a q/\∃r,cQ q c r/\r.files=j.files/\r.eJ=j.eJ/\(∀K,r.aU c K->j.aU c K)/\A8 e j r)fromλax bg=>by
  have P:I az m ax:=(ci _ m).cr<|I.aR (S:=az) bg;have bf:=W.aw P<|λ_ _ V=>V;apply(BK (fC g) bc pos e bf hg hl (by omega)<|by omega).mono;rintro bb q⟨v',rfl,ho,r,D,e1,e2,e3⟩;have u:y ((bc.bytes.drop pos).take e)=e:=by simp;omega
  have L:=ho.bytes;have C:I (j.aU c) m q:=(P.mono (T:=j.aU c) cO).trans D.aw<|λ_ V=>.inl V;rcases L.shape with⟨_,h0⟩|⟨ba,f,i,rfl,al⟩
  .rw[h0]at u;grind
  .rw[u]at al L;exact⟨ba,f,i,by rw[u],⟨C.cell N an E,C.cell ac O (by omega),C.cell ad O (by omega)⟩,al,L,(I.aR (S:=j.aU c) o).trans C (λ_ V=>.inl V),r,D.ok,e1,e2,e3⟩)
 obtain⟨HB,HW,HZ,bl⟩:=gH o s au x;have F:z (G a)<z (G m):=by omega
 clear h o hd hg hl h1 hp k X W x au s an O;go_in
 go_wp2_with(go_at_call 165;rw[<-(ae HW)];refine aq.mono ?_;rintro bb w1⟨rfl,bh⟩;subst bh)
 go_region_held3(λd=>aO d (R b 0)=H (ay c)/\aO d (R (z<|G a) 0)=H (ap pos)/\aO d (R (z<|G a) 1)=H (ap e)) (first|assumption|go_keep) (first
  |(go_at_call 123;go_loud(refine(HN w1.drew rfl).mono ?_;rintro bb w2⟨rfl,t⟩;have bn:aO w2 (R b 0)=H (ay c)/\aO w2 (R (z<|G a) 0)=H (.int .i64 pos)/\aO w2 (R (z<|G a) 1)=H (.int .i64 e):=⟨(t.cell (p:=(R b 0)) E).trans (by rw[bY];exact N),(t.cell (p:=(R (z<|G a) 0)) F).trans (by rw[bY];exact ac),(t.cell (p:=(R (z<|G a) 1)) F).trans (by rw[bY];exact ad)⟩;have bd:=U t;clear t))
  |(go_at_call 179;go_loud(refine(HR w2 bd).mono ?_;rintro bb w3⟨ba,f,i,rfl,bo,r1⟩;have R1:=U r1;clear r1)))
 go_wp2;go_ret2
 exact⟨ba,f,i,rfl,R1⟩
def dG(a:dL):eO:=(a.map<|λc=>iM<|fI c).flatten
theorem gy(a:eO):y (iM a)=y a+4:=by simp[iM,cC]
theorem pq(c:cJ)(a:dL):dG (c::a)=iM (fI c)++dG a:=by simp[dG]
theorem Km(b a:dL):dG (b++a)=dG b++dG a:=by simp[dG]
def Df(a:dL)(i:M)(h:i<y a):dG a=dG (a.take i)++(iM (fI a[i])++dG (a.drop<|i+1)):=by
 grind[take_append_drop,drop_eq_getElem_cons,Km,pq]
def FO(a:dL)(b:eO)(i:M)(h:i<y a):((dG a++b).drop<|y<|dG<|a.take i).take (y (fI a[i])+4)=iM (fI a[i]):=by
 rw[Df a i h,bD,sN,bD,<-gy,pX]
def Kl(a:dL)(i:M)(h:i<y a):y (dG<|a.take i)+(y (fI a[i])+4)<=y (dG a):=by
 rw[Df a i h];simp[gy]
structure tP(ks:mq)(cs:dL):Prop where
 len:y ks=y cs
 ne:0<y cs
 EQ:∀i(hi:i<y ks)(hc:i<y cs),ks[i].Of cs[i]
 pos:∀i(hi:i<y ks),ks[i].pos=y (dG<|cs.take i)
 iX:∀c∈cs,∀x∈c,x.Good
 mh:dM cs.flatten
 Dz:cs.Pairwise gX
 small:∀c∈cs,y c<=1000
def Bytes.same{V:iY}{n0:M}{S:fA}(h:Bytes a d p)(i:jF V n0 S a f)(j:∀k,ct d=H k->k<n0/\¬V.F k):Bytes f d p:=by
 rcases h with⟨rfl,rfl⟩|⟨l,b,c,rfl,e,g⟩;exact .inl ⟨rfl,rfl⟩;exact .inr ⟨l,b,c,rfl,e,λk h=>i.cell (.inr<|j l rfl)<|g k h⟩
def nF.Zw(V:iY)(q e:M)(i cut l C:Z)(s m g j b a:M)(h:mq)(d:dL)(P:Y)(K:lS P e (fj none) i cut l C s m g (bB j b (y<|dG d) a) h)(k:tP h d)(W:Bytes P (bB j b (y<|dG d) a) (dG d))(w:y (dG d)<=a)(A:y (dG d)<=1000000000000)(D:e<q/\¬V.F e)(E:s<q/\¬V.F s)(Q:j<q/\¬V.F j)(B:Steps P)(x:1<q/\¬V.F 1):nF V q e h d P where
 mem:=⟨_,_,_,_,_,_,_,_,_,K,D,E⟩
 len:=k.len
 EQ:=k.EQ
 iX:=k.iX
 mh:=k.mh
 Dz:=k.Dz
 small:=k.small
 steps:=B
 Aj:=x
 bytes:=by
  intro r F t ac L T;have O:=k.EQ r F t;have c:=k.pos r F;have u:=Kl d r t;refine(Uf j b (y<|dG d) a h[r] (K.same L D E) (by rw[c,O.size];exact u) w (by rw[O.size];omega) A).mono ?_;rintro al W'⟨rfl,f⟩;refine⟨j,b+h[r].pos,a-h[r].pos,rfl,by rw[c,O.size];omega,?_,V.up<|V.fD T (I.aR (S:=az) f) cO,I.aR f⟩;have o:Bytes ac (bB j b (y<|dG d) a) (dG d):=W.same L (λad v=>by cases v;exact Q);have X:=o.Cf (n:=h[r].pos) (by rw[c];omega);have N:=Bytes.take (bs:=(dG d).drop h[r].pos) (n:=h[r].size) (by simpa using X) (by simp;rw[c,O.size];omega);have p:=FO d [] r t;rw[ee,<-c,<-O.size]at p;rw[p]at N;refine N.below f<|λad v=>?_;cases v;have hx:=o.lt (bs:=dG d) (by grind) j rfl;exact hx
def Kk(d:M)(j:cw df)(eJ:cw (aa×cw Mv))(F:fA):iY where
 D W:=(∀k,F k->k<z (G W))/\∃K,cQ W d K/\K.files=j/\K.eJ=eJ/\∀k,K.aU d k->F k
 F:=F
 fD:=by
  rintro w m S⟨e,K,f,g,h,b⟩c i;exact⟨λk a=>ag (e k a) c.size,K,f.aw c<|λk a l=>i k l<|b k a,g,h,b⟩
 lt:=by
  grind
 Eb W:=(∀k,F k->k<z (G W))/\∃K,cQ W d K/\K.files=j/\K.eJ=eJ/\∀k,K.aU d k->F k
 up:=id
 AX:=by
  rintro w m S⟨e,K,f,g,h,b⟩c i;exact⟨λk a=>ag (e k a) c.size,K,f.aw c<|λk a l=>i k l<|b k a,g,h,b⟩
structure Bn(V:iY)(db:M)(fs:cw df)(eJ:cw (aa×cw Mv))(F:fA):Prop where
 eF:V.F=F
 ok:∀W,V.D W->(∀k,F k->k<z (G W))/\∃K,cQ W db K/\K.files=fs/\K.eJ=eJ/\(∀k,K.aU db k->F k)/\∀W' K' n,n<=512->(∀k,F k->k<z (G W'))->cQ W' db K'->K'.files=fs->K'.eJ=eJ->(∀k,K'.aU db k->F k)->A8 n K K'->V.Eb W'
def Bn.aH(a:M)(c:cw df)(eJ:cw (aa×cw Mv))(F:fA):Bn (Kk a c eJ F) a c eJ F:=⟨rfl,λ_⟨j,K,k,l,m,n⟩=>⟨j,K,k,l,m,n,λ_ d _ _ e f g h i _=>⟨e,d,f,g,h,i⟩⟩⟩
def nF.QS(P:M)(V:cw df)(eJ:cw (aa×cw Mv))(O:fA)(p a aq:M)(hu:aq<18446744073709551616)(cut f N:Z)(r h b:M)(u:aa)(o:mq)(i:dL)(ad:df)(e:eO)(al:Y)(X:lS al a (ay P) aq cut f N r h b u o)(c:tP o i)(j:Bn t P V eJ O)(h5:∀q∈o,q.size<=512)(hf:sd V (fC aq)=H ad)(l:ad.bytes=dG i++e)(B:y ad.bytes<=1099511627776)(v:a<p/\¬O a)(w:r<p/\¬O r)(L:Steps al)(K:1<p/\¬O 1)(F:Pow al)(n:2<p/\¬O 2):nF t p a o i al where
 mem:=⟨_,_,_,_,_,_,_,_,_,X,by rw[j.eF];exact v,by rw[j.eF];exact w⟩
 len:=c.len
 EQ:=c.EQ
 iX:=c.iX
 mh:=c.mh
 Dz:=c.Dz
 small:=c.small
 steps:=L
 Aj:=by rw[j.eF];exact K
 bytes:=by
  intro ac C A au hs hD;obtain⟨E,ax,hK,Q,e2,S,hE⟩:=j.ok au hD;have T:=j.eF;rw[<-T]at v w n;have ao:=c.EQ ac C A;have d:=c.pos ac C;have an:=Kl i ac A;refine(Qt hu o[ac] ad (X.same hs v w) hK (by rw[Q];exact hf) B (by rw[d,ao.size,l,af];omega) (by rw[ao.size];omega)<|F.di<|hs.2 _<|.inl n).mono ?_;rintro ba W'⟨av,g,s,rfl,D,W,ht,K',x,f1,f2,f3,hC⟩;refine⟨av,g,s,rfl,D,?_,hE W' K' _ (h5 _<|ak C) (λq m=>ag (E q m) ht.size) x (f1.trans Q) (f2.trans e2) (λq m=>S q<|f3 q m) hC,ht.mono<|λq m=>.inl (by rw[T];exact S q m)⟩;have k:=FO i e ac A;rw[<-d,<-ao.size,<-l]at k;rw[k]at W;exact W
def Tv:(prog.info? 310).map (λi=>(i.zero,i.size,i.bytes))=H (H<|dW #[ap 0,ap 0,ap 0,aj ⟨#[]⟩,aj ⟨#[]⟩],5,56):=by kernel_rfl
def Qr(w:Y)(x a b u v:aa)(t:TypeId):∀j q,[x,a,b,u,v][j]?=H q->aO (cF w<|ar #[x,a,b,u,v] t) (((R (z<|G w) 0):Addr).add j)=H q:=by
 intro j q c;rw[du];simp_all
def I.eT(h:eL a f d u):I (λk=>ct d=H k) a f:=I.dJ h.grown<|λ_ e=>.inl e
def ep.aw{w w':Y}{b:M}{t:TypeId}{S:fA}(h:ep w b d t)(c:I S w w')(a:¬S b):ep w' b d t:=(c.block b (am h) a).trans h
def rH(w:Y)(b i:M)(u:aa):I (λk=>k=b) w (cA w (R b i) u):=(I.refl (λk=>k=b) w).setCell b i u<|.inl rfl
structure lR(W:Y)(base bl bd bp bk bf bt:M)(lv dv pv kv:aa)(fr to:M)(ds ps:eO)(ks:mq):Prop where
 l:ep W bl lv 97
 d:ep W bd dv 135
 p:ep W bp pv 135
 k:ep W bk kv 306
 f:ep W bf (ap fr) 3
 t:ep W bt (ap to) 3
 od:eP W base dv ds
 op:eP W base pv ps
 ok:W.ownsRow base 310 5 kv (y ks) (eI ks)
 ne:∀x,ct dv=H x->ct pv≠H x
 ord:bl<bd/\bd<bp/\bp<bk/\bk<bf/\bf<bt/\bt<base
 size:base<=z (G W)
def FV(a:mq)(k:rE):eI (a++[k])=eI a++k.cells:=by simp[eI]
def lR.ke{e k i l bk j m:M}{h:aa}{o:eO}(n:lR a e k i l bk j m d u N h b c p o B)(q:g<e):¬(ct u=H g)/\¬(ct N=H g)/\¬(ct h=H g):=⟨λf=>by have:=(n.od.lt g f).1;omega,λf=>by have:=(n.op.lt g f).1;omega,λf=>by have:=(aG n.ok g f).1;omega⟩
theorem jS(h:a.ownsRow b c g d l x)(f:A<b):(cA a (R A Q) u).ownsRow b c g d l x:=(rH a A Q u).own h (λk e i=>by have:=(aG h k e).1;omega)
def lR.kd{e l j m bk k n:M}{h:aa}{s:eO}(i:lR a e l j m bk k n d u N h b c p s B):(∀x,ct h=H x->ct u≠H x)/\(∀x,ct h=H x->ct N≠H x):=by
 constructor;intro x o g;obtain⟨c1,q⟩:=fR i.ok o;obtain⟨c2,r⟩:=fR i.od g;grind
 intro x o g;obtain⟨c1,q⟩:=fR i.ok o;obtain⟨c2,r⟩:=fR i.op g;grind
def lR.piece{e o m j bk n p:M}{s g:aa}{q A ps1:eO}(h:lR a e o m j bk n p d u N s b c q A B)(i:I (λr=>ct N=H r) a f)(x:ct g=ct N\/∃v,ct g=H v/\z (G a)<=v)(w:eP f e g ps1):lR (cA f (R j 0) g) e o m j bk n p d u g s b c q ps1 B:=by
 have D:=h.ord;refine⟨(h.l.aw i (h.ke<|by omega).2.1).other _ (by omega),(h.d.aw i (h.ke<|by omega).2.1).other _ (by omega),(h.p.aw i (h.ke<|by omega).2.1).set _,(h.k.aw i (h.ke<|by omega).2.1).other _ (by omega),(h.f.aw i (h.ke<|by omega).2.1).other _ (by omega),(h.t.aw i (h.ke<|by omega).2.1).other _ (by omega),jS (i.own h.od<|λr l=>h.ne r l) (by omega),jS w (by omega),jS (i.own h.ok<|λr l=>h.kd.2 r l) (by omega),λE l k=>?_,D,by rw[gM];exact aC h.size i.size⟩;rcases x with t|⟨v,t,C⟩;exact h.ne E l<|t▸k;rw[t]at k;cases k;have:=(h.od.lt _ l).2;omega
def lR.blocks{e m k n bk l o:M}{r i:aa}{s:eO}{w ks1:mq}(h:lR a e m k n bk l o d u N r b c p s w)(g:I (λq=>ct r=H q) a f)(v:f.ownsRow e 310 5 i (y ks1) (eI ks1)):lR (cA f (R bk 0) i) e m k n bk l o d u N i b c p s ks1:=by
 have x:=h.ord;exact⟨(h.l.aw g (h.ke<|by omega).2.2).other _ (by omega),(h.d.aw g (h.ke<|by omega).2.2).other _ (by omega),(h.p.aw g (h.ke<|by omega).2.2).other _ (by omega),(h.k.aw g (h.ke<|by omega).2.2).set _,(h.f.aw g (h.ke<|by omega).2.2).other _ (by omega),(h.t.aw g (h.ke<|by omega).2.2).other _ (by omega),jS (g.own h.od<|λq t j=>h.kd.1 q j t) (by omega),jS (g.own h.op<|λq t j=>h.kd.2 q j t) (by omega),jS v (by omega),h.ne,x,by rw[gM];exact aC h.size g.size⟩
def lR.data{e n k o bk m p:M}{r g:aa}{v ds1 s:eO}(h:lR a e n k o bk m p d u N r b c v s B)(i:I (λq=>ct u=H q) a C)(A:ct g=ct u\/∃w,ct g=H w/\z (G a)<=w)(x:eP C e g ds1):lR (cA C (R k 0) g) e n k o bk m p d g N r b c ds1 s B:=by
 have E:=h.ord;refine⟨(h.l.aw i (h.ke<|by omega).1).other _ (by omega),(h.d.aw i (h.ke<|by omega).1).set _,(h.p.aw i (h.ke<|by omega).1).other _ (by omega),(h.k.aw i (h.ke<|by omega).1).other _ (by omega),(h.f.aw i (h.ke<|by omega).1).other _ (by omega),(h.t.aw i (h.ke<|by omega).1).other _ (by omega),jS x (by omega),jS (i.own h.op<|λq l j=>h.ne q j l) (by omega),jS (i.own h.ok<|λq l=>h.kd.1 q l) (by omega),λK l j=>?_,E,by rw[gM];exact aC h.size i.size⟩;rcases A with t|⟨w,t,D⟩;exact h.ne K (t▸l) j;rw[t]at l;cases l;have:=(h.op.lt _ j).2;omega
def lR.fin{e j i g bk f k:M}{l:aa}{m:eO}(h:lR a e j i g bk f k d u N l b c p m B):lR (cA (cA a (R g 0) aD) (R f 0)<|ap c) e j i g bk f k d u aD l c c p [] B:=by
 have o:=h.ord;exact⟨(h.l.other _<|by omega).other _ (by omega),(h.d.other _<|by omega).other _ (by omega),(h.p.set _).other _ (by omega),(h.k.other _<|by omega).other _ (by omega),(h.f.other _<|by omega).set _,(h.t.other _<|by omega).other _ (by omega),jS (jS h.od<|by omega) (by omega),eP.nil _ _,jS (jS h.ok<|by omega) (by omega),(λx _ n=>by cases n),o,by rw[gM,gM];exact h.size⟩
def lR.E2{e j i g bk f k:M}{l:aa}{m:eO}(h:lR a e j i g bk f k d u N l b c p m B):lR (cA (cA a (R f 0)<|ap c) (R g 0) aD) e j i g bk f k d u aD l c c p [] B:=by
 have o:=h.ord;exact⟨(h.l.other _<|by omega).other _ (by omega),(h.d.other _<|by omega).other _ (by omega),(h.p.other _<|by omega).set _,(h.k.other _<|by omega).other _ (by omega),(h.f.set _).other _ (by omega),(h.t.other _<|by omega).other _ (by omega),jS (jS h.od<|by omega) (by omega),eP.nil _ _,jS (jS h.ok<|by omega) (by omega),(λx _ n=>by cases n),o,by rw[gM,gM];exact h.size⟩
def lR.at{e m k n bk l j:M}{q:aa}{o r:eO}(h:lR a e m k n bk l j d u N q c g o r B)(s:M):lR (cA a (R j 0)<|ap s) e m k n bk l j d u N q c s o r B:=by
 have t:=h.ord;exact⟨h.l.other _ (by omega),h.d.other _ (by omega),h.p.other _ (by omega),h.k.other _ (by omega),h.f.other _ (by omega),h.t.set _,jS h.od (by omega),jS h.op (by omega),jS h.ok (by omega),h.ne,t,by rw[gM];exact h.size⟩
def uN(a b:M)(c e d:aa)(x:M):Prop:=(a<=x/\x<=b)\/ct c=H x\/ct e=H x\/ct d=H x
def lR.low{e f k m bk l h:M}{i:aa}{n:eO}(j:lR a e f k m bk l h d u N i b c p n B):∀x,uN f h u N i x->f<=x:=by
 have o:=j.ord;rintro x(⟨g,_⟩|g|g|g);exact g;have:=(j.od.lt x g).1;omega;have:=(j.op.lt x g).1;omega;have:=(aG j.ok x g).1;omega
def lR.aw{W w':Y}{a l j m bk k n:M}{q:aa}{r:eO}(h:lR W a l j m bk k n d u N q c g p r B)(e:I az W w'):lR w' a l j m bk k n d u N q c g p r B:=⟨h.l.aw e id,h.d.aw e id,h.p.aw e id,h.k.aw e id,h.f.aw e id,h.t.aw e id,e.own h.od<|λ_ _ o=>o,e.own h.op<|λ_ _ o=>o,e.own h.ok<|λ_ _ o=>o,h.ne,h.ord,aC h.size e.size⟩
def lR.j8{e l o r bk q m:M}{n:aa}{s:eO}(i:lR a e l o r bk q m d u N n b c p s B)(g:I X a f)(h:∀k,uN l m u N n k->¬X k):lR f e l o r bk q m d u N n b c p s B:=by
 have j:=i.ord;exact⟨i.l.aw g<|h _<|.inl ⟨by omega,by omega⟩,i.d.aw g<|h _<|.inl ⟨by omega,by omega⟩,i.p.aw g<|h _<|.inl ⟨by omega,by omega⟩,i.k.aw g<|h _<|.inl ⟨by omega,by omega⟩,i.f.aw g<|h _<|.inl ⟨by omega,by omega⟩,i.t.aw g<|h _<|.inl ⟨by omega,by omega⟩,g.own i.od<|λk j=>h k<|.inr<|.inl j,g.own i.op<|λk j=>h k<|.inr<|.inr<|.inl j,g.own i.ok<|λk j=>h k<|.inr<|.inr<|.inr j,i.ne,i.ord,aC i.size g.size⟩
def lR.vz{e g k m bk l h:M}{j:aa}{n:eO}(i:lR a e g k m bk l h d u N j b c p n B):∀x,uN g h u N j x->x<z (G a):=by
 have q:=i.ord;have o:=i.size;rintro x(⟨_,f⟩|f|f|f);omega;exact(i.od.lt x f).2;exact(i.op.lt x f).2;exact(aG i.ok x f).2
def I.low(j:I X a f)(h:∀x,X x->b<=x)(k:c<b)(e:aO a (R c g)=H d):aO f (R c g)=H d:=j.cell e (λi=>by have:=h c i;omega)<|dj a (R c g) e
def kH{P:Program}{x:Oper}{w:Act}{ac:Act->Y->Prop}{aq:Exit->Act->Y->Prop}(an ao:Operand)(A:TypeId)(o:x.op=Op.call {callee:=Callee.builtin Builtin.append,args:=#[an,ao],argTypes:=#[A,A]})(b:M)(t:TypeId)(u:TypeInfo)(i:aa)(c bytes:M)(V:P.underlying A=H (.slice t))(N:P.info? t=H u)(X:u.zero=H i)(h:u.size=c)(n:u.bytes=bytes)(q:i.cells.size=c)(p:0<c)(C:aa)(v:M)(r:iC)(S:w.eval an=C)(j:a.ownsRow b t c C v r)(m:Addr)(s ad:M)(d:iC)(W:w.eval ao=J (H m) s ad)(O:y d=s*c)(g:∀al B,d[al]?=H B->aO a (m.add al)=H B)(D:∀B∈d,B.oneCell'=bU)(hn:v+s<=140737488355328)(e:(v+s)*bytes<=140737488355328)(f:b<=z (G a))(L:∀k l,l.ownsRow b t c k (v+s) (r++d)->eL a l C k->ac (w.put x.dst k) l):Oper.wp P x w a ac aq:=by
 obtain⟨k,l,Q,E,F,_,K⟩:=ny (P:=P) a b A x.type t u i c bytes V N X h n q p C v r j m s ad d O g D (by unfold maxLen;omega) e f;unfold Oper.wp;simp[execOp,o,resolve,invoke,builtin,S,W,Q,Result.andThen];exact L k l E<|eL.of F K
def tF(h:Bytes a (bB b c g l) p):∀j u,(p.map<|Value.int .u8)[j]?=H u->aO a (((R b c):Addr).add j)=H u:=by
 intro j u k;rw[du];rcases h with⟨h,_⟩|⟨f,e,d,h,_,i⟩;cases h;grind
def Yu{f A C q bk L s:M}(an e t bo:M)(t1:M){j:eO}(X kl:ab)(h:lR a f A C q bk L s (bB an e bo t) d u N b c p j B)(hT:Steps a)(hg:an<A)(c0:aO a (R an<|e+b*4)=H (aj X))(c1:aO a (R an<|e+t1*4)=H (aj kl))(ec:b<bo)(ej:t1<bo)(cx:c=t1+1)(ed:b<=t1)(hL:bo<=1000000000)(eb:y p<=100000000000)(ei:y j<=100000)(ef:y B<=1000000000):cD bz 246 #[ay q,ay bk,ay C,ay s,ay L,ay A] a λdn w'=>
 dn=aL (dw #[])/\(∃ao bb,lR w' f A C q bk L s (bB an e bo t) ao aD bb c c (p++iM j) [] (B++[⟨y p,y j+4,c-b,X,kl⟩])/\(∀K,ct ao=H K->ct d=H K\/z (G a)<=K)/\(∀K,ct bb=H K->ct N=H K\/z (G a)<=K))/\I (uN A s d u N) a w':=by
 obtain⟨i0,cp,cT,db,dc⟩:=cH Tv
 obtain⟨j0,cq,cB,cE,cM⟩:=cH qw
 have ds:=h.ord
 have cv:=h.size
 have ca:=Eu hT h.op cv<|by omega
 obtain⟨Q,P,cn⟩:=aA h.od
 obtain⟨V,S,cu⟩:=aA h.ok
 subst cn
 subst cu
 have q1:=h.p.cell
 have q2:=h.p.free
 have D:=h.low
 have bp:=U c0
 have bq:=U c1
 obtain⟨DL,bm⟩:∃DL,c-b=DL:=⟨_,rfl⟩
 rw[bm]
 have e1:(c:Z)-(b:Z)=(DL:Z):=by omega
 have e2:(c:Z)-1=(t1:Z):=by omega
 have e3:IntKind.i64.wrap (DL:Z)=(DL:Z):=by rw[bw];omega
 have e4:IntKind.i64.wrap (t1:Z)=(t1:Z):=by rw[bw];omega
 have e5:(b:Z)<(bo:Z):=by omega
 have e6:(t1:Z)<(bo:Z):=by omega
 have ck:=U (show∀x w1,eP w1 f x (j++le 4 (ng j))->eL a w1 u x->∃pb k pc,x=bB pb k (y j+4) pc/\(aO w1 (R q 0)=H u/\w1.frozen? (R q 0)=aY)/\lR (cA w1 (R q 0) x) f A C q bk L s (bB an e bo t) (J Q (y p) P) x (J V (y B) S) b c p (j++le 4 (ng j)) B/\I (uN A s (J Q (y p) P) u<|J V (y B) S) a (cA w1 (R q 0) x)from by
  intro x w1 aq W;have w:y (j++le 4 (ng j))=y j+4:=by simp[cC]
  have ac:=h.p.aw (I.eT W) (h.ke<|by omega).2.1;have g:=h.piece (I.eT W) W.ur aq;have E:=((I.eT W).mono (T:=uN A s (J Q (y p) P) u<|J V (y B) S)<|λK F=>.inl<|.inr<|.inr<|.inl F).setCell q 0 x<|.inl<|.inl ⟨by omega,by omega⟩;rcases aq.bytes.shape with⟨_,h0⟩|⟨pb,k,pc,h0,h1⟩
  .rw[h0]at w;simp at w
  grind[ep.cell,ep.free])
 clear h hT c0 c1 cx bm
 go_in
 go_wp2_with(go_at_call 216;refine ca.mono ?_;rintro dn w1⟨x,rfl,aq,W⟩;obtain⟨pb,k,pc,rfl,⟨cm,co⟩,g,E⟩:=ck x w1 aq W;have bu:=U g;have bt:=U E;clear g E aq W)
 have g:=ae bu
 have E:=ae bt
 clear bu bt cm co
 generalize cA w1 (R q 0) (bB pb k (y j+4) pc)=o at*
 clear ca q1 q2
 have k0:aO o (R an<|e+b*4)=H (aj X):=E.low D hg bp
 have k1:aO o (R an<|e+t1*4)=H (aj kl):=E.low D hg bq
 have l1:=g.l.cell
 have l2:=g.d.cell
 have l3:=g.p.cell
 have l4:=g.k.cell
 have l5:=g.f.cell
 have l6:=g.t.cell
 have bv:=U (show∀(m:Obj)O n,n.ownsRow f 310 5 O (y B+1) (eI B++[ap<|y p,ap<|(y j:Z)+4,ap DL,aj X,aj kl])->eL (cF o m).drew n (J V (y B) S) O->lR (cA n (R bk 0) O) f A C q bk L s (bB an e bo t) (J Q (y p) P) (bB pb k (y j+4) pc) O b c p (j++le 4 (ng j)) (B++[⟨y p,y j+4,DL,X,kl⟩])/\I (uN A s (J Q (y p) P) u<|J V (y B) S) a (cA n (R bk 0) O)/\(aO n (R an<|e+b*4)=H (aj X)/\aO n (R an<|e+t1*4)=H (aj kl)/\aO n (R A 0)=H (bB an e bo t)/\aO n (R C 0)=H (J Q (y p) P)/\aO n (R q 0)=H (bB pb k (y j+4:M) pc)/\aO n (R L 0)=H (ap b)/\aO n (R s 0)=H (ap c))/\aO n (R bk 0)=H (J V (y B) S)/\(aO (cA n (R bk 0) O) (R an<|e+b*4)=H (aj X)/\aO (cA n (R bk 0) O) (R an<|e+t1*4)=H (aj kl)/\aO (cA n (R bk 0) O) (R A 0)=H (bB an e bo t)/\aO (cA n (R bk 0) O) (R C 0)=H (J Q (y p) P)/\aO (cA n (R bk 0) O) (R q 0)=H (bB pb k (y j+4:M) pc)/\aO (cA n (R bk 0) O) (R L 0)=H (ap b)/\aO (cA n (R bk 0) O) (R s 0)=H (ap c))/\n.frozen? (R bk 0)=aY/\(∀K,ct O=H K->ct (J V (y B) S)=H K\/z (G a)<=K)from by
  intro m O n au ax;have w:I (λK=>ct (J V (y B) S)=H K) o n:=(((I.refl _ o).alloc m).trans (ci _ _)<|λK F=>.inl F).trans (I.eT ax)<|λK F=>.inl F;have ac:=g.k.aw w (g.ke<|by omega).2.2;have l:=g.blocks (ks1:=B++[⟨y p,y j+4,DL,X,kl⟩]) w (by rw[FV,af];exact au);have bn:∀K,ct (J V (y B) S)=H K->f<=K:=λK F=>(aG g.ok K F).1;have ad:I (uN A s (J Q (y p) P) u<|J V (y B) S) a (cA n (R bk 0) O):=(E.trans w<|λK F=>.inl<|.inr<|.inr<|.inr F).setCell bk 0 _<|.inl<|.inl ⟨by omega,by omega⟩;exact⟨l,ad,⟨w.low bn (by omega) k0,w.low bn (by omega) k1,(g.l.aw w (g.ke<|by omega).2.2).cell,(g.d.aw w (g.ke<|by omega).2.2).cell,(g.p.aw w (g.ke<|by omega).2.2).cell,(g.f.aw w (g.ke<|by omega).2.2).cell,(g.t.aw w (g.ke<|by omega).2.2).cell⟩,ac.cell,⟨ad.low D hg bp,ad.low D hg bq,l.l.cell,l.d.cell,l.p.cell,l.f.cell,l.t.cell⟩,ac.free,λK F=>by
   rcases ax.ur with dn|⟨dm,dn,hy⟩
   .grind
   .rw[dn]at F;cases F;have h1:=E.size;have h2:z (G o)<z (G (cF o m).drew):=by simp_all
    grind⟩)
 have bs:=U g.ok
 have dv:f<=z (G o):=g.size
 have b1:an<z (G o):=by omega
 have b2:A<z (G o):=by omega
 have b3:C<z (G o):=by omega
 have b4:q<z (G o):=by omega
 have b5:bk<z (G o):=by omega
 have b6:L<z (G o):=by omega
 have b7:s<z (G o):=by omega
 clear g E
 have hS:(aO o.drew (R an<|e+b*4)=H (aj X)/\aO o.drew (R an<|e+t1*4)=H (aj kl)/\aO o.drew (R A 0)=H (bB an e bo t)/\aO o.drew (R C 0)=H (J Q (y p) P)/\aO o.drew (R q 0)=H (bB pb k (y j+4:M) pc)/\aO o.drew (R bk 0)=H (J V (y B) S)/\aO o.drew (R L 0)=H (ap b)/\aO o.drew (R s 0)=H (ap c)):=⟨by rw[bY];exact k0,by rw[bY];exact k1,by rw[bY];exact l1,by rw[bY];exact l2,by rw[bY];exact l3,by rw[bY];exact l4,by rw[bY];exact l5,by rw[bY];exact l6⟩
 rename_i QQ KK bx
 refine cI (λm=>(aO m (R an<|e+b*4)=H (aj X)/\aO m (R an<|e+t1*4)=H (aj kl)/\aO m (R A 0)=H (bB an e bo t)/\aO m (R C 0)=H (J Q (y p) P)/\aO m (R q 0)=H (bB pb k (y j+4:M) pc)/\aO m (R bk 0)=H (J V (y B) S)/\aO m (R L 0)=H (ap b)/\aO m (R s 0)=H (ap c))) 22 (by kernel_rfl) ?_
 refine cY 0 ?_
 iterate 20 (refine eM (v:=?_) hS rfl (by kernel_rfl) iW rfl ?_ ?_;rotate_left;(focus(intro m hX;obtain⟨x0,x1,x2,x3,x4,x5,x6,x7⟩:=hX;go_simp;try rfl));simp only[Act.put,dD,Nat.reduceAdd])
 apply eC
 refine aM (i:=20) rfl rfl (by kernel_rfl) ?_
 intro dx bf
 go_simp
 refine bf _ _ (λ_=>?_) ?_
 .grind[World.cell?_drew,ia]
 refine aM (i:=21) rfl rfl (by kernel_rfl) ?_
 intro dT bg
 simp only[cy,bF,bQ]
 refine kH (.tmp 8) (.tmp 28) 306 rfl f 310 i0 (dW #[ap 0,ap 0,ap 0,aj ⟨#[]⟩,aj ⟨#[]⟩]) 5 56 underlying306 cp cT db dc rfl (by decide) (J V (y B) S) (y B) (eI B) rfl (jd (aN bs<|ar #[ap<|y p,ap<|(y j:Z)+4,ap DL,aj X,aj kl] 310) rfl) (R (z<|G o) 0) 1 1 [ap<|y p,ap<|(y j:Z)+4,ap DL,aj X,aj kl] rfl rfl (Qr _ _ _ _ _ _ _) (by simp[Value.oneCell']) (by omega) (by omega) (by simp;omega) ?_
 intro O n au ax
 obtain⟨l,ad,⟨s0,s1,s2,s3,s4,s6,s7⟩,s5,⟨z0,z1,z2,z3,z4,z6,z7⟩,bT,bi⟩:=bv _ O n au ax
 obtain⟨cc,cb,cs⟩:=aA au
 subst cs
 refine bg _ _ (λ_=>⟨s0,s1,s2,s3,s4,s5,s6,s7⟩) ?_
 simp only[Act.put,dD]
 refine aM (i:=22) rfl rfl (by kernel_rfl) ?_
 intro ea bh
 go_simp
 refine bh _ _ wX ?_
 refine cW (by kernel_rfl) ?_ _
 show KK _ _
 apply bx
 clear bx bf bg bh z0 z1 z2 z3 z4 z6 z7 s0 s1 s2 s3 s4 s5 s6 s7 bT au ax hS k0 k1 l1 l2 l3 l4 l5 l6 b1 b2 b3 b4 b5 b6 b7 bv bs
 have bc:=U bi
 clear bi
 generalize cA n (R bk 0) (J cc (y B+1) cb)=W3 at*
 generalize(J cc (y B+1) cb)=dk at*
 have l2:=l.d.cell
 have l3:=l.p.cell
 have dd:=l.size
 have ce:=U l.od
 have cd:=U l.op.bytes
 have eg:y (j++le 4 (ng j))=y j+4:=by simp[cC]
 have cl:=U (show∀v4 w4,w4.ownsRow f 5 1 v4 (y p+(y j+4)) (p.map (Value.int .u8)++(j++le 4 (ng j)).map (Value.int .u8))->eL W3 w4 (J Q (y p) P) v4->(aO w4 (R C 0)=H (J Q (y p) P)/\w4.frozen? (R C 0)=aY)/\lR (cA w4 (R C 0) v4) f A C q bk L s (bB an e bo t) v4 (bB pb k (y j+4) pc) dk b c (p++iM j) (j++le 4 (ng j)) (B++[⟨y p,y j+4,DL,X,kl⟩])/\I (uN A s (J Q (y p) P) u<|J V (y B) S) a (cA w4 (R C 0) v4)/\(∀K,ct v4=H K->ct (J Q (y p) P)=H K\/z (G a)<=K)from by
  intro v4 w4 av ba;have w:=I.eT ba;have ac:=l.d.aw w (l.ke<|by omega).1;have bn:=l.data (ds1:=p++iM j) w ba.ur<|eP.of av (by rw[af,gy]) (by unfold iM;rw[aQ,aQ,aQ]);exact⟨⟨ac.cell,ac.free⟩,bn,(ad.trans w<|λK F=>.inl<|.inr<|.inl F).setCell C 0 _<|.inl<|.inl ⟨by omega,by omega⟩,λK F=>by
   grind[eL.ur,Nat.le_trans,I.size]⟩)
 clear l ad
 go_wp2_with(first
  |(at_builtin;go_loud(refine bO _ rfl (.tmp 30) (.tmp 31) 135 rfl f 5 j0 (.int .u8 0) 1 1 underlying135 cq cB cE cM rfl (by decide) _ (y p) (p.map (Value.int .u8)) rfl ce (R pb k) (y j+4) pc ((j++le 4 (ng j)).map (Value.int .u8)) rfl (by grind) (tF cd) (by intro ek hu;simp only[bW]at hu;obtain⟨dm,_,rfl⟩:=hu;rfl) (by omega) (by omega) dd ?_;intro v4 w4 av ba;obtain⟨⟨y0,y1⟩,r,al,bl⟩:=cl v4 w4 av ba;obtain⟨x4,c4,rfl⟩:=aA av;have bd:=U bl;clear bl;have cj:=U r;have ch:=U al;clear av ba r al)))
 have r:=ae cj
 have al:=ae ch
 have y2:=r.p.cell
 have y3:=r.p.free
 have y4:=r.f.cell
 have y5:=r.f.free
 have y6:=r.t.cell
 have n1:L≠q:=by omega
 have n2:s≠q:=by omega
 have n3:s≠L:=by omega
 have br:=U (show∀w,(w=(cA (cA (cA w4 (R C 0)<|J x4 (y p+(y j+4)) c4) (R q 0) aD) (R L 0)<|ap c).drew\/w=(cA (cA (cA w4 (R C 0)<|J x4 (y p+(y j+4)) c4) (R L 0)<|ap c) (R q 0) aD).drew)->(∃ao bb,lR w f A C q bk L s (bB an e bo t) ao aD bb c c (p++iM j) [] (B++[⟨y p,y j+4,DL,X,kl⟩])/\(∀K,ct ao=H K->ct (J Q (y p) P)=H K\/z (G a)<=K)/\(∀K,ct bb=H K->ct (J V (y B) S)=H K\/z (G a)<=K))/\I (uN A s (J Q (y p) P) u<|J V (y B) S) a w from by
  rintro w(rfl|rfl)
  .exact⟨⟨_,_,r.fin.aw<|ci _ _,bd,bc⟩,((al.setCell q 0 _<|.inl<|.inl ⟨by omega,by omega⟩).setCell L 0 _<|.inl<|.inl ⟨by omega,by omega⟩).trans (ci _ _)<|λK F=>.inl F⟩
  .exact⟨⟨_,_,r.E2.aw (ci _ _),bd,bc⟩,((al.setCell L 0 _ (.inl (.inl ⟨by omega,by omega⟩))).setCell q 0 _ (.inl (.inl ⟨by omega,by omega⟩))).trans (ci _ _) (λK F=>.inl F)⟩)
 clear r al
 go_region
 all_goals
  go_end0;refine⟨rfl,br _ ?_⟩;grind
def FE(c:cJ):ab:=(c[0]?.map E.key).getD ⟨#[]⟩
def MK(c:cJ):ab:=(c[y c-1]?.map E.key).getD ⟨#[]⟩
def Nx(p:M)(c:cJ):rE:=⟨p,y (fI c)+4,y c,FE c,MK c⟩
def bS:M->dL->mq
 |_,[]=>[]
 |p,c::a=>Nx p c::bS (p+(y (fI c)+4)) a
def km:∀(a:dL)(p:M),y (bS p a)=y a
 |[],_=>rfl
 |c::a,p=>by rw[bS,aS,km a,aS]
def Dm(c:cJ):∀(a:dL)(p:M),bS p (a++[c])=bS p a++[Nx (p+y (dG a)) c]
 |[],p=>by simp[bS,dG]
 |d::a,p=>by
  rw[cL,bS,Dm c a,bS,cL,pq,af,gy];grind
def zS:∀(a:dL)(p i:M)(f:i<y (bS p a))(b:i<y a),(bS p a)[i]=Nx (p+y (dG<|a.take i)) a[i]
 |[],_,i,_,b=>absurd b<|ft i
 |c::a,p,0,_,_=>by simp[bS,dG]
 |c::a,p,i+1,f,b=>by
  have e:i<y (bS (p+(y (fI c)+4)) a):=by simpa[bS]using f
  have d:i<y a:=by simpa using b
  have h:=zS a (p+(y (fI c)+4)) i e d;simp only[bS,bF,kM,pq,af,gy];rw[h];grind
def Iw(h:0<y e):FE e=(e[0]'h).key:=by
 unfold FE;rw[aI h];rfl
def MJ(h:0<y e):MK e=(e[y e-1]'(by omega)).key:=by
 unfold MK;rw[aI<|by omega];rfl
def Xd(h:0<y e)(p:M):(Nx p e).Of e:=⟨h,rfl,rfl,Iw h,MJ h⟩
def Kj:∀(c:cJ),y c<=y (fI c)
 |[]=>by simp[fI]
 |x::c=>by
  have:=Kj c;unfold fI at*;rw[dF,af,aS];have:8<=y (Ce x):=by unfold Ce;rw[af,cC];omega
  omega
structure qB(l:cJ)(cs:dL):Prop where
 flat:cs.flatten=l
 fit:∀c∈cs,0<y c/\y (fI c)+4<=512
 Dz:cs.Pairwise gX
def qB.qQ(h:qB e k)(d:e≠[])(g:∀x∈e,x.Good)(j:dM e):tP (bS 0 k) k where
 len:=km k 0
 ne:=by
  cases k with
  |nil=>exact absurd h.flat.symm<|by simpa using d
  |cons f k=>simp
 EQ:=λi c a=>by
  rw[zS k 0 i c a];exact Xd (h.fit _<|ak a).1 _
 pos:=λi c=>by
  have a:i<y k:=by rw[km]at c;exact c
  rw[zS k 0 i c a];simp[Nx]
 iX:=λf a x c=>g x (by rw[<-h.flat];grind[mem_flatten])
 mh:=by rw[h.flat];exact j
 Dz:=h.Dz
 small:=λf a=>by
  have:=(h.fit f a).2;have:=Kj f;omega
def qB.length(h:qB e k):y k<=y e:=by
 rw[<-h.flat];have:=h.fit;clear h;induction k with
 |nil=>simp
 |cons c k b=>
  have a:=(this c<|by simp).1;have f:=b (λd a=>this d<|by simp[a]);grind
def qB.data(h:qB e k):y (dG k)<=512*y k:=by
 have:=h.fit;clear h;induction k with
 |nil=>simp[dG]
 |cons c k b=>
  have a:=(this c<|by simp).2;have g:=b (λd a=>this d<|by simp[a]);rw[pq,af,gy,aS];omega
def vy(k:rE):eO:=le 4 k.size++(le 4 k.count++(eh k.first++eh k.last))
def fo(a:mq):eO:=le 4 (y a)++a.flatMap vy
section
open Shelf
attribute [local go_sem] Oper.semAt_some
def Qe(a:dL)(c:cJ):dG (a++[c])=dG a++iM (fI c):=by simp[dG]
def Rh{a:cJ}(h:e.take b=L++a)(j:b<=y e){i:M}(g:i<y a):∃f:y L+i<y e,e[y L+i]=a[i]:=by
 have c:b=y L+y a:=by have:=bX y h;grind
 refine⟨by omega,?_⟩;have d:(e.take b)[y L+i]'(by simp;omega)=(L++a)[y L+i]'(by simp;omega):=by simp only[h]
 rw[lC,tI<|by omega]at d;grind
def Re{g o r t bk s p:M}(D f n:M)(q:cJ)(e:dL)(c:cJ)(T:lR a g o r t bk s p (bB D f (y q) n) d u N (y e.flatten) b (dG e) (fI c) (bS 0 e))(V:Steps a)(W:D<o)(hc:∀ad al,(aF q)[ad]?=H al->aO a (R D<|f+ad)=H al)(hcut:q.take b=e.flatten++c)(F:b<=y q)(k:0<y c)(hl:y q<=1000000)(h:∀B∈e,0<y B/\y (fI B)+4<=512)(C:y (fI c)+4<=512):cD bz 246 #[ay t,ay bk,ay r,ay p,ay s,ay o] a λac A=>
 ac=aL (dw #[])/\(∃l m,lR A g o r t bk s p (bB D f (y q) n) l aD m (y (e++[c]).flatten) b (dG<|e++[c]) (fI []) (bS 0<|e++[c])/\(∀x,ct l=H x->ct d=H x\/z (G a)<=x)/\(∀x,ct m=H x->ct N=H x\/z (G a)<=x))/\I (uN o p d u N) a A:=by
 have j:b=y e.flatten+y c:=by
  have:=bX y hcut;grind
 have v:y e<=y e.flatten:=by
  have:=h;clear T hcut j h;induction e with
  |nil=>simp
  |cons B e x=>
   have v:=(this B<|by simp).1;have E:=x (λP w=>this P<|by simp[w]);grind
 have E:y (dG e)<=512*y e:=by
  have:=h;clear T hcut j h v;induction e with
  |nil=>simp[dG]
  |cons B e x=>
   have v:=(this B<|by simp).2;have E:=x (λP w=>this P<|by simp[w]);rw[pq,af,gy,aS];omega
 obtain⟨i1,Q⟩:=Rh hcut F k
 obtain⟨i2,S⟩:=Rh hcut F (i:=y c-1)<|by omega
 have O:=(eE q _ i1).1
 have c1:=(eE q _ i2).1
 rw[Q]at O
 rw[S]at c1
 have hb:=km e 0
 refine(Yu D f n (y q) (y e.flatten+(y c-1)) (FE c) (MK c) T V W ?_ ?_ (by omega) (by omega) (by omega) (by omega) (by omega) (by omega) (by omega)<|by omega).mono ?_
 .rw[Iw k];grind
 .rw[MJ k];grind
 .rintro ac A⟨rfl,⟨l,m,hv,hx⟩,X⟩;refine⟨rfl,⟨l,m,?_,hx⟩,X⟩;have K:y (e++[c]).flatten=b:=by rw[j];simp
  have L:bS 0 (e++[c])=bS 0 e++[⟨y<|dG e,y (fI c)+4,b-y e.flatten,FE c,MK c⟩]:=by
   rw[Dm,j,uS,dp];rfl
  rw[K,L,Qe];exact hv
def eP.base{c base':M}(h:eP a c d p)(e:base'<=c):eP a base' d p:=er h e
def eP.Zl(i:eP a b d p)(e:0<y p):∃g c h,d=bB g c (y p) h:=by
 rcases i.bytes.shape with⟨_,f⟩|⟨g,c,h,f,j⟩;rw[f]at e;simp at e;grind
structure GU(w:Y)(lv:aa)(p:cJ)(B:fA)(W:Y):Prop where
 ex:∃cs cur dv pv kv,lR W (z (G w)+8) (z<|G w) (z (G w)+1) (z (G w)+2) (z (G w)+3) (z (G w)+4) (z (G w)+5) lv dv pv kv (y cs.flatten) (y p) (dG cs) (fI cur) (bS 0 cs)/\p=cs.flatten++cur/\(∀c∈cs,0<y c/\y (fI c)+4<=512)/\y (fI cur)+4<=512/\(cur=[]->p=[])/\(cs++[cur]).Pairwise gX/\∀k,B k↔uN (z<|G w) (z (G w)+5) dv pv kv k
 fn:ep W (z (G w)+6) (.func (.func 246) #[] #[ay<|z (G w)+2,ay<|z (G w)+3,ay<|z (G w)+1,ay<|z (G w)+5,ay<|z (G w)+4,ay<|z<|G w]) 1
 aw:I az w W
def GU.lt(l:GU a d e X C):∀k,X k->z (G a)<=k/\k<z (G C):=by
 obtain⟨i,g,j,n,m,h,_,_,_,_,_,c⟩:=l.ex;exactλk g=>⟨h.low k<|(c k).1 g,h.vz k<|(c k).1 g⟩
def GU.stays{T:fA}(n:GU a d e X f)(h:I T f C)(c:∀k,T k->¬X k/\z (G a)+7<=k):GU a d e X C:=by
 obtain⟨l,b,m,v,u,t,o,p,q,r,s,i⟩:=n.ex;exact⟨⟨l,b,m,v,u,t.j8 h<|λk g j=>(c k j).1<|(i k).2 g,o,p,q,r,s,i⟩,n.fn.aw h (λj=>by have:=(c _ j).2;omega),n.aw.trans h<|λk g=>.inr (by have:=(c k g).2;omega)⟩
def QR{w W2 j w6:Y}{K h g i v6:aa}{p gg cur:cJ}{cs:dL}{B:fA}(e:lR j (z (G w)+8) (z<|G w) (z (G w)+1) (z (G w)+2) (z (G w)+3) (z (G w)+4) (z (G w)+5) K h g i (y cs.flatten) (y p) (dG cs) (fI cur) (bS 0 cs))(N:ep j (z (G w)+6) (.func (.func 246) #[] #[ay<|z (G w)+2,ay<|z (G w)+3,ay<|z (G w)+1,ay<|z (G w)+5,ay<|z (G w)+4,ay<|z<|G w]) 1)(x:I az w j)(F:I B W2 j)(a:∀k,uN (z<|G w) (z (G w)+5) h g i k->B k\/z (G W2)<=k)(hcut:p=cs.flatten++cur)(m:∀c∈cs,0<y c/\y (fI c)+4<=512)(t:y (fI cur)+y (fI gg)+4<=512)(n:0<y gg)(v:(cs++[cur]).Pairwise gX)(q:gX p gg)(O:w6.ownsRow (z (G w)+8) 5 1 v6 (y (fI cur)+y (fI gg)) ((fI cur).map (Value.int .u8)++(fI gg).map (Value.int .u8)))(C:eL j w6 g v6):(aO w6 (R (z (G w)+2) 0)=H g/\w6.frozen? (R (z (G w)+2) 0)=aY)/\(aO (cA w6 (R (z (G w)+2) 0) v6) (R (z (G w)+5) 0)=H (ap<|y p)/\(cA w6 (R (z (G w)+2) 0) v6).frozen? (R (z (G w)+5) 0)=aY)/\∃E,GU w K (p++gg) E (cA (cA w6 (R (z (G w)+2) 0) v6) (R (z (G w)+5) 0)<|ap ((y p+y gg:M):Z))/\I B W2 (cA (cA w6 (R (z (G w)+2) 0) v6) (R (z (G w)+5) 0)<|ap ((y p+y gg:M):Z))/\∀k,E k->B k\/z (G W2)<=k:=by
 have d:=I.eT C;have l:=e.p.aw d (e.ke<|by omega).2.1;have f:=e.piece (ps1:=fI<|cur++gg) d C.ur (eP.of O (by rw[ya,af])<|by rw[ya,aQ]);have A:=f.at (y p+y gg);have u:∀k,ct g=H k->z (G w)+8<=k:=λk o=>(e.op.lt k o).1;have b:I (uN (z<|G w) (z (G w)+5) h g i) j (cA (cA w6 (R (z (G w)+2) 0) v6) (R (z (G w)+5) 0)<|ap ((y p+y gg:M):Z)):=((d.mono (T:=uN (z<|G w) (z (G w)+5) h g i)<|λk o=>.inl<|.inr<|.inr<|.inl o).setCell _ 0 _<|.inl<|.inl ⟨by omega,by omega⟩).setCell _ 0 _<|.inl<|.inl ⟨by omega,by omega⟩;refine⟨⟨l.cell,l.free⟩,⟨f.t.cell,f.t.free⟩,uN (z<|G w) (z (G w)+5) h v6 i,⟨⟨cs,cur++gg,h,v6,i,by rw[af];exact A,by rw[hcut,bD],m,by rw[ya,af];exact t,λc=>?_,?_,λk=>rA⟩,?_,?_⟩,F.trans b a,?_⟩;rw[mX]at c;rw[c.2]at n;simp at n;obtain⟨Q,_,S⟩:=bR.1 v;refine bR.2 ⟨Q,by simp,λc L W P=>?_⟩;rw[cX.1 P];intro V D s r;rcases aE.1 r with r|r;exact S c L cur (by simp) V D s r;exact q V (by rw[hcut];grind[mem_append_left,mem_flatten]) s r
 .exact N.aw b (by
   rintro(⟨_,c⟩|c|c|c)
   .omega
   .have:=(e.od.lt _ c).1;omega
   .have:=u _ c;omega
   .have:=(aG e.ok _ c).1;omega)
 exact x.trans b<|λk o=>.inr<|e.low k o;rintro k(c|c|c|c);exact a k<|.inl c;exact a k<|.inr<|.inl c;rcases C.ur with r|⟨V,r,D⟩;exact a k<|.inr<|.inr<|.inl<|r▸c;rw[r]at c;cases c;exact .inr<|aC F.size D;exact a k<|.inr<|.inr<|.inr c
def EJ(L b f:M)(hT:Steps a)(hg:L<z (G a))(hc:∀dk cs,(aF e)[dk]?=H cs->aO a (R L<|b+dk)=H cs)(db:y e<=f)(ef:0<y e)(Q:∀bl∈e,bl.Good)(hs:dM e)(c:∀L∈ic e,y L<=10)(hl:y e<=1000000):cD bz 203 #[bB L b (y e) f] a λad w'=>∃dv kv q,ad=aL (dw #[dv,kv])/\qB e q/\eP w' (z<|G a) dv (dG q)/\w'.ownsRow (z<|G a) 310 5 kv (y q) (eI<|bS 0 q)/\I az a w':=by
 obtain⟨i0,bx,ck,cl,cm⟩:=cH qw;have ch:=hT.lt;have cT:=AP (bB L b (y e) f) _ _ _ rfl;have hE:kr a (bB L b (y e) f) e:=⟨by rw[fP],.inr ⟨L,b,f,rfl,db,hc⟩⟩;obtain⟨HT,HC,HG,cv⟩:=gH hT hc Q c;clear hT hc Q c;refine(dh (n:=3)).1 ?_;refine callsIn_of_wp_marks func203 rfl trivial ?_ rfl;simp only[ntmps203,eU,aS,dH,Nat.reduceAdd,Nat.reduceSub,dR,dQ,eV,eD,cU,cL];have dc:=oN (P:=bz) (w:=(cF (cF (cF (cF (cF (cF (cF a<|ar #[bB L b (y e) f] 97)<|ar #[aD] 135)<|ar #[aD] 135)<|ar #[aD] 306)<|ar #[ap 0] 3)<|ar #[ap 0] 3)<|ar #[.nilFunc] 1)) (b:=z (G a)+1+1+1+1+1+1) (u:=.nilFunc) (t:=1) (aB _<|by simp) (.func (.func 246) #[] #[ay<|z (G a)+1+1,ay<|z (G a)+1+1+1,ay<|z (G a)+1,ay<|z (G a)+1+1+1+1+1,ay<|z (G a)+1+1+1+1,ay<|z<|G a]) rfl;gi_wp2_with(refine⟨trivial,?_⟩;gi_at_call 91;refine(dh.2<|cT _).mono ?_;rintro ad w1⟨rfl,rfl⟩)
 clear dc;obtain⟨W0,j⟩:∃W0,(cF (cF (cF (cF (cF (cF (cF (cF a<|ar #[bB L b (y e) f] 97)<|ar #[aD] 135)<|ar #[aD] 135)<|ar #[aD] 306)<|ar #[ap 0] 3)<|ar #[ap 0] 3)<|ar #[.func (.func 246) #[] #[ay<|z (G a)+1+1,ay<|z (G a)+1+1+1,ay<|z (G a)+1,ay<|z (G a)+1+1+1+1+1,ay<|z (G a)+1+1+1+1,ay<|z<|G a]] 1)<|ar #[bB L b (y e) f] 97)=W0:=⟨_,rfl⟩;have eg:z (G W0)=z (G a)+8:=by rw[<-j];simp
 have cj:I az a W0:=by rw[<-j];exact(((((((cK az a).alloc _).alloc _).alloc _).alloc _).alloc _).alloc _).alloc _
 have cE:ep W0 (z (G a)+7) (bB L b (y e) f) 97:=by rw[<-j];exact aB _<|by simp
 have hA0:GU a (bB L b (y e) f) (ig []) (uN (z<|G a) (z (G a)+5) aD aD aD) W0:=by refine⟨⟨[],[],aD,aD,aD,⟨?_,?_,?_,?_,?_,?_,eP.nil _ _,eP.nil _ _,bK _ _ _ _,(by simp[ct]),by omega,by omega⟩,rfl,by simp,by simp[fI],λ_=>rfl,by simp,λk=>rA⟩,?_,cj⟩;rw[<-j];grind[ep.alloc,aB];rw[<-j];exact ep.alloc (ep.alloc (ep.alloc (ep.alloc (ep.alloc (ep.alloc (aB _<|by simp) _) _) _) _) _) _;rw[<-j];exact ep.alloc (ep.alloc (ep.alloc (ep.alloc (ep.alloc (aB _<|by simp) _) _) _) _) _;rw[<-j];exact ep.alloc (ep.alloc (ep.alloc (ep.alloc (aB _<|by simp) _) _) _) _;rw[<-j];exact ep.alloc (ep.alloc (ep.alloc (aB _<|by simp) _) _) _;rw[<-j];exact ep.alloc (ep.alloc (aB _<|by simp) _) _;rw[<-j];exact ep.alloc (aB _<|by simp) _
 rw[j];refine nQ (m:=3) (arg:=GP<|bB L b (y e) f) (V:=AY) (n0:=z<|G a) (gf:=153) (lb:=#[ay<|z (G a)+7]) (l:=nU 0<|ic e) (S:=λk=>k=z (G a)+7) ?geval (enters_of func153 (by kernel_rfl) rfl) (λ_=>rfl) (ww (z<|G a) 2 cE (hE.aw cj<|λk c=>⟨id,(show L=k by simpa[ct]using c)▸hg⟩) (λk c=>(show L=k by simpa[ct]using c)▸hg) (by omega)<|by omega) trivial (by omega) (λk c=>by omega) (λg bm cp=>GU a (bB L b (y e) f) (ig g) bm cp) (λ_ _ _ _=>False) _ hA0 (λk c n=>by rcases n with⟨_,n⟩|n|n|n<;>first|omega|(simp[ct]at n)) (λg bm cp A=>A.lt) ?st (λ_ _ _ _ _ _ h=>h.elim) ?body ?done ?stop;case geval=>rfl
 (case st=>intro g bm cp r T A i hT;refine A.stays i<|λk c=>⟨(hT k c).1,?_⟩;rcases(hT k c).2 with n|n|n;omega;exact n.elim;omega);(case stop=>grind)
 case body=>
  rintro lr g⟨cn,i⟩bm cp ed bo cb T A _;obtain⟨hn,el,c⟩:=JT hs T;have bu:0<y i:=gJ.2 c.ne;have ec:cn+y i+y el=y e:=by rw[c.all,hn];simp;omega
  have O:=AZ hE c.all c.ne;rw[<-hn]at O;unfold GP;unfold zA at O|-;simp only at O|-;have ds:y i<=10:=cv i (by obtain⟨_,em,ad⟩:=yL _ _ _ _ _ T;rw[<-ad];simp);have bt:∀bl∈i,bl.Good:=λbl a=>HG bl (by rw[c.all];simp[a]);generalize f-cn=ek at*;obtain⟨HA,HK,HN⟩:=dA A c hn;clear A T c hn;gi_wp2;refine⟨I.refl _ _,λW2 bi=>?_⟩;have hA2:=HA.stays bi (λk c=>by grind);have bg:kr W2 (bB L (b+cn*4) (y i) ek) i:=O.aw hA2.aw<|λk c=>(show L=k by simpa[ct]using c)▸⟨id,hg⟩;have cd:=EI bg (λk c=>(show L=k by simpa[ct]using c)▸ag hg hA2.aw.size) bt (by omega);obtain⟨q,d,dv,pv,kv,hv,hcut,u,x,K,v,hB⟩:=hA2.ex;have cM:0<y (fI i)/\y (fI i)<=350:=by
   have h1:=Rf bt;have W:=Kj i;omega
  obtain⟨px,pc,ce⟩:=aA hv.op;obtain⟨cq,hb⟩:∃cq,y (fI i)=cq:=⟨_,rfl⟩;obtain⟨cu,ha⟩:∃cu,y (fI d)=cu:=⟨_,rfl⟩;rw[hb]at cM;rw[ha]at ce x;obtain⟨HV,HF,bd,an,HB,D⟩:=jX hv hA2.fn hA2.aw bi hB hcut;obtain⟨au,dm,bn,Hb,Ha,dT⟩:=jX u K v hb ha bg;clear hA2 bg O hv hcut u K v hB hb ha bi;subst ce;gi_wp2_with fail
  refine⟨trivial,(CallsIn.inRound lr<|dh.2 cd).mono ?_⟩;rintro ad C⟨b2,rfl,bh,o⟩;obtain⟨cx,F,cB,bq⟩:=bh.Zl (by rw[ae Hb];omega);rw[ae Hb]at bq;subst bq;have l:=HV.aw o;have bs:=HF.aw o id;have y5:=l.p.cell;have y9:=bs.cell;obtain⟨al,bc,r⟩:=dA l bh o;clear l bs bh o cd;have ax:lr<z (G W2):=ag cb an.size;have eb:z (G cp)<=z (G W2):=an.size;have cc:y (ig g)=cn:=HN.symm;by_cases dn:(512:Z)<(cu:Z)+cq+4
  .have ao:0<y d:=by
    rcases gB (y d)with n|n
    .obtain rfl:=aP n;have:=ae Ha;simp[fI]at this;omega
    .exact n
   have av:=HK.all;have X:I az a C:=bd.cr r;have t:=Re L b f e q d al (HT.below (X.below (ai _) cO) ch) hg (λdk cs hj=>X.cell (HC dk cs hj) id hg) (by rw[av,bD,pX];exact D) (by omega) ao hl au (by rw[ae Ha];exact x);clear X av;gi_wp2_with fail
   refine⟨trivial,(CallsIn.inRound lr<|dh.2<|Et ((cu:Z)+cq) _ (by omega)<|by omega).mono ?_⟩;rintro ad w4⟨rfl,dd⟩;subst w4;gi_wp2_with fail
   refine⟨trivial,(CallsIn.inRound lr<|dh.2 t).mono ?_⟩;rintro ad w5⟨rfl,⟨ea,ei,aq,br,bT⟩,W⟩;have s:∀k,uN (z<|G a) (z (G a)+5) dv (J px cu pc) kv k->bm k:=λk c=>(HB k).2 c;have bv:=HV.vz;have ca:=HV.low;have bp:eP w5 (z<|G W2) (bB cx F cq cB) (fI i):=W.own bc (λk c n=>by have:=bv k n;have:=(bc.lt k c).1;omega);have bk:=aq.size;have y6:=aq.p.cell;have dx:=r.size;have v:=ae bn;have bb:=U<|tF bp.bytes;have bf:=U (λ(v6:aa)(w6:Y)ho hw=>QR (w:=a) (w6:=w6) (v6:=v6) (p:=ig g) (cs:=q++[d]) (cur:=[]) (gg:=i) (B:=bm) (W2:=W2) aq ((HF.aw r id).aw W (by
    rintro(⟨_,n⟩|n|n|n)
    .omega
    .have:=(HV.od.lt _ n).1;omega
    .have:=(HV.op.lt _ n).1;omega
    .have:=(aG HV.ok _ n).1;omega))
    ((bd.cr r).trans W<|λk c=>.inr<|ca k c) ((r.mono cO).trans W<|λk c=>.inl<|s k c)
    (by
     rintro k(n|n|n|n)
     .exact .inl<|s k<|.inl n
     .rcases br k n with ad|ad
      .exact .inl<|s k<|.inr<|.inl ad
      grind
     .simp[ct]at n
     .rcases bT k n with ad|ad
      .exact .inl<|s k<|.inr<|.inr<|.inr ad
      grind)
    (by rw[ae D];simp) (by
     grind[mem_singleton,ae])
    (by rw[ae Hb];simp[fI];omega) bu (bR.2 ⟨v,by simp,λbl _ co a=>by rw[cX.1 a];intro _ _ ej hz;cases hz⟩) HK.low ho hw)
   clear aq br bT W s bv ca bp v t y5 y9;gi_wp2_with(first
    |(gi_at_builtin;refine dV _ rfl (.tmp 27) (.tmp 28) 135 rfl (z (G a)+8) 5 i0 (.int .u8 0) 1 1 underlying135 bx ck cl cm rfl (by decide) _ 0 ((fI []).map (Value.int .u8)) rfl (bK _ _ _ _) (R cx F) cq cB ((fI i).map (Value.int .u8)) rfl (by rw[cV,ae Hb,rF]) bb (by intro cs hu;simp only[bW]at hu;obtain⟨co,_,rfl⟩:=hu;rfl) (by omega) (by omega) bk ?_;intro v6 w6 w ac;obtain⟨⟨y0,y1⟩,⟨y2,y3⟩,B2,hP,B,N⟩:=bf v6 w6 (by rw[ae Hb];exact w) ac;obtain⟨x6,c6,rfl⟩:=aA w;simp only[dp]at y2 y3 hP B;rw[cc]at y2;have HP:=U hP;have E:=U B;have ba:=U N;clear w ac hP B N))
   have e1:ig (g++[(cn,i)])=ig g++i:=tC _ _ _;have e2:((cn:Z)+y i)=((y (ig g)+y i:M):Z):=by omega
   rw[e2];refine⟨trivial,B2,?_,(an.mono<|λk c=>.inl<|.inr c).trans E<|λk c=>.inl<|.inl c,E.block lr ax bo,λk c=>(ba k c).imp_right<|λn=>by omega⟩;show GU a _ (ig<|g++[(cn,i)]) B2 _;rw[e1];exact HP
  .have s:∀k,uN (z<|G a) (z (G a)+5) dv (J px cu pc) kv k->bm k:=λk c=>(HB k).2 c;have bk:=al.size;have bb:=U<|tF bc.bytes;have bf:=U<|λ(v6:aa)(w6:Y)ho hw=>QR (w:=a) (w6:=w6) (v6:=v6) (p:=ig g) (cs:=q) (cur:=d) (gg:=i) (B:=bm) (W2:=W2) al (HF.aw r id) (bd.cr r) (r.mono cO) (λk c=>.inl<|s k c) D au (by rw[ae Ha,ae Hb];omega) bu bn HK.low ho hw;clear s y9;gi_wp2_with fail
   refine⟨trivial,(CallsIn.inRound lr<|dh.2<|Et ((cu:Z)+cq) _ (by omega)<|by omega).mono ?_⟩;rintro ad w4⟨rfl,dd⟩;subst w4;gi_wp2_with(first
    |(gi_at_builtin;refine dV _ rfl (.tmp 27) (.tmp 28) 135 rfl (z (G a)+8) 5 i0 (.int .u8 0) 1 1 underlying135 bx ck cl cm rfl (by decide) _ cu ((fI d).map (Value.int .u8)) rfl (by have W:=al.op;unfold eP at W;rw[ae Ha]at W;exact W) (R cx F) cq cB ((fI i).map (Value.int .u8)) rfl (by rw[cV,ae Hb,rF]) bb (by intro cs hu;simp only[bW]at hu;obtain⟨co,_,rfl⟩:=hu;rfl) (by omega) (by omega) bk ?_;intro v6 w6 w ac;obtain⟨⟨y0,y1⟩,⟨y2,y3⟩,B2,hP,B,N⟩:=bf v6 w6 (by rw[ae Ha,ae Hb];exact w) ac;obtain⟨x6,c6,rfl⟩:=aA w;rw[cc]at y2;have HP:=U hP;have E:=U B;have ba:=U N;clear w ac hP B N))
   have e1:ig (g++[(cn,i)])=ig g++i:=tC _ _ _;have e2:((cn:Z)+y i)=((y (ig g)+y i:M):Z):=by omega
   rw[e2];refine⟨trivial,B2,?_,(an.mono<|λk c=>.inl<|.inr c).trans E<|λk c=>.inl<|.inl c,E.block lr ax bo,λk c=>(ba k c).imp_right<|λn=>by omega⟩;show GU a _ (ig<|g++[(cn,i)]) B2 _;rw[e1];exact HP
 (case done=>intro X bm cp bb A F _ hK;obtain⟨q,d,dv,pv,kv,hv,hcut,u,x,K,v,hB⟩:=A.ex;rw[AU]at hcut K hv;(have ao:0<y d:=by grind);have t:=Re L b f e q d hv (HT.below (A.aw.below (ai _) cO) ch) hg (λdk cs hj=>A.aw.cell (HC dk cs hj) id hg) (by rw[aX];exact hcut) (ai _) ao hl u x;have s:¬uN (z<|G a) (z (G a)+5) dv pv kv X:=λn=>F<|(hB X).2 n;have HX:=U (show∀C i r,lR C (z (G a)+8) (z<|G a) (z (G a)+1) (z (G a)+2) (z (G a)+3) (z (G a)+4) (z (G a)+5) (bB L b (y e) f) i aD r (y (q++[d]).flatten) (y e) (dG<|q++[d]) (fI []) (bS 0<|q++[d])->I (uN (z<|G a) (z (G a)+5) dv pv kv) cp C->(∀bl,ct i=H bl->ct dv=H bl\/z (G cp)<=bl)->(∀bl,ct r=H bl->ct kv=H bl\/z (G cp)<=bl)->(eP C (z<|G a) i (dG<|q++[d])/\C.ownsRow (z<|G a) 310 5 r (y<|q++[d]) (eI<|bS 0<|q++[d]))/\I az a C/\C.heap[X]?=H (.deferred<|H [])/\ct i≠H X/\ct r≠H X from by intro C i r l o hd c;have h1:=l.ok;rw[km]at h1;have N:=am hK;exact⟨⟨l.od.base (by omega),er h1<|by omega⟩,A.aw.trans o<|λk c=>.inr<|hv.low k c,(o.block X N s).trans hK,λn=>by rcases hd X n with ad|ad;exact s<|.inr<|.inl ad;omega,λn=>by rcases c X n with ad|ad;exact s<|.inr<|.inr<|.inr ad;omega⟩);have av:=A.fn.cell;have HP:=U<|show qB e (q++[d])from⟨by rw[hcut];simp,λn hc=>by grind,v⟩;clear A hcut u K v hB hv F s ao;generalize q++[d]=au at*;(gi_wp2_with fail);refine⟨trivial,(dh.2 t).mono ?_⟩;rintro ad C⟨rfl,⟨i,r,l,O,T⟩,o⟩;have z1:=l.d.cell;have z2:=l.k.cell;obtain⟨⟨w,B⟩,W,D,ax,ba⟩:=HX C i r l o O T;obtain⟨x4,c4,rfl⟩:=aA w;obtain⟨x5,c5,rfl⟩:=aA B;obtain⟨ac,al,an,aq⟩:=gH w B W D;have N:=am D;clear l o w B W D O T av t hK;(gi_wp2_with fail);refine sy.2 ?_;(go_quiet(fail));gi_wp2;refine⟨by simp,.inl ⟨_,_,rfl,run_takeDeferred aq,?_⟩⟩;refine⟨_,jj rfl _ _ _,?_⟩;have E:=(gD (λk=>k=X) C nq).trans (gG (C.drewN nq) X<|.deferred none)<|λ_ h=>.inl h;exact⟨_,_,au,rfl,HP,E.own ac<|λk c n=>ax (by rw[<-n];exact c),E.own al<|λk c n=>ba (by rw[<-n];exact c),an.trans E<|λk c=>.inr<|by omega⟩)
end
structure IW(w0 w:Y)(x:M)(k:rE)(o:aa)(bs:eO):Prop where
 own:eP w (z<|G w0) o bs
 box:Cw w x k
 ne:ct o≠H x
 aw:I az w0 w
def IW.wrote{n:rE}{c:eO}(h:IW a f b n d p)(g:eL f C d u)(k:eP C (z<|G a) u c):IW a C b n u c:=by
 have i:=am h.box;refine⟨k,h.box.aw (I.dJ (S:=λj=>ct d=H j) g.grown<|λ_ e=>.inl e) h.ne,λe=>?_,h.aw.trans (I.dJ (S:=λj=>ct d=H j) g.grown<|λ_ e=>.inl e)<|λj e=>.inr (h.own.lt j e).1⟩;rcases g.ur with m|⟨l,m,o⟩;exact h.ne<|m.symm.trans e;grind
def IW.size{k:rE}{e:eO}(h:IW a C c k d e):z (G a)<=z (G C):=h.aw.size
structure rE.Fits(k:rE):Prop where
 size:k.size<=1000000
 count:k.count<=1000000
 first:k.first.size<=255
 last:k.last.size<=255
def MX{k:rE}(h:k.Fits):y (vy k)<=520:=by
 have:=h.first;have:=h.last;simp[vy,eh,cC,hZ];omega
def li{ks:mq}(h:∀k∈ks,k.Fits):y (ks.flatMap vy)<=520*y ks:=by
 induction ks with
 |nil=>simp
 |cons k ks b=>
  have a:=MX (h k<|by simp);have c:=b (λj a=>h j<|by simp[a]);rw[dF,af,aS];omega
def sR{n:Z}(a:0<=n)(b:n<4294967296):IntKind.u32.wrap n=n:=by rw[IntKind.wrap_u32];omega
def Jy(a:mq)(E f k:M)(w:Y)(hb:E<z (G w))(hc:∀L an,(eI a)[L]?=H an->aO w (R E<|f+L)=H an)(hl:y a<=1000000)(o:∀V∈a,V.Fits):cD bz 226 #[bB E f (y a) k] w λK w'=>∃v',K=aL v'/\eP w' (z<|G w) v' (fo a)/\I az w w':=by
 have u:=jL (baseqq:=z<|G w) (v:=aD) (bs:=[]) (y a:M) (w:=w) (eP.nil _ _) (ai _) (by simp) (by omega) (by omega);have e0:=sR (n:=(y a:M)) (by omega) (by omega);have HC:=U hc;have X:=U o;clear hc o;go_in
 go_wp2_with(go_at_call 215;refine u.mono ?_;rintro K w1⟨v1,rfl,g,i⟩;have N:=U g;have O:=U i;clear g i)
 go_loopw [3,12] (λo i wr=>∃n:M,n<=y a/\i=ap n/\eP wr (z<|G w) o (le 4 (y a)++(a.take n).flatMap vy)/\I az w wr) (λ_ i _=>y a-(intOf i).toNat)
 case atStart=>exact⟨0,bj _,rfl,by simpa using ae N,I.dJ (S:=az) O.grown (by intro V o;simp[ct]at o)⟩
 (case round=>obtain⟨n,hn,rfl,c,e⟩:=hrel;have al:=e.size;by_cases l:n<y a;(.have m:∀L ad,L<5->(rE.cells a[n])[L]?=H ad->aO wr (R E<|f+n*5+L)=H ad:=λL ad b c=>e.cell (by rw[aV];exact HC _ _<|(iy a n L l b).trans c) (λd=>d) hb;have t:=X a[n]<|ak l;(have ac:y (le 4 (y a)++(a.take n).flatMap vy)<=600000000:=by have h1:=li (ks:=a.take n)<|λV o=>X V<|fJ o;grind[length_append,cC]);have HS:=U (show(le 4 (y a)++(a.take n).flatMap vy)++vy a[n]=le 4 (y a)++(a.take<|n+1).flatMap vy from by rw[bD,ah l,gd];simp);generalize a[n]=V at*;generalize le 4 (y a)++(a.take n).flatMap vy=F at*;obtain⟨pos,d,b,first,j⟩:=V;have p0:=m 0 _ (by omega) rfl;have p1:=m 1 _ (by omega) rfl;have p2:=m 2 _ (by omega) rfl;have p3:=m 3 _ (by omega) rfl;have p4:=m 4 _ (by omega) rfl;clear m;simp only[jn]at p0 p1 p2 p3 p4;have f1:=t.size;have f2:=t.count;have f3:=t.first;have f4:=t.last;simp only at f1 f2 f3 f4;have e1:=sR (n:=(d:M)) (by omega) (by omega);have e2:=sR (n:=(b:M)) (by omega) (by omega);have hA:IW w (cF wr<|ar #[ap pos,ap d,ap b,aj first,aj j] 310) (z<|G wr) ⟨pos,d,b,first,j⟩ u3 F:=⟨c.alloc _,aB _ rfl,λK=>by have:=(c.lt _ K).2;omega,e.alloc _⟩;have W:=U hA;clear c e t hA;(go_wp2_with fail);refine(jL (d:M) W.own (by simp;omega) (by omega) (by omega)<|by omega).mono ?_;rintro K w1⟨v1,rfl,g,i⟩;have hA1:=W.wrote i g;obtain⟨k0,k1,k2,k3,k4⟩:=hA1.box.cells;simp only at k0 k1 k2 k3 k4;have P:=hA1.size;have p:=U hA1;clear hA1 g i;(go_wp2_with fail);refine(jL (b:M) p.own P (by rw[af,cC];omega) (by omega)<|by omega).mono ?_;rintro K w2⟨v2,rfl,v,B⟩;have hA2:=p.wrote B v;obtain⟨m0,m1,m2,m3,m4⟩:=hA2.box.cells;simp only at m0 m1 m2 m3 m4;have Q:=hA2.size;have q:=U hA2;clear hA2 v B;(go_wp2_with fail);refine(pF (z<|G w) v2 ((F++le 4 d)++le 4 b) first _ q.own Q (by rw[af,af,cC,cC];omega) f3).mono ?_;rintro K w3⟨v3,rfl,x,C⟩;have hA3:=q.wrote C x;obtain⟨q0,q1,q2,q3,q4⟩:=hA3.box.cells;simp only at q0 q1 q2 q3 q4;have T:=hA3.size;have r:=U hA3;clear hA3 x C;(go_wp2_with fail);refine(pF (z<|G w) v3 (((F++le 4 d)++le 4 b)++(first.size:Z)::kY first) j _ r.own T (by grind[length_append,cC,length_cons,hZ]) f4).mono ?_;rintro K w4⟨v4,rfl,A,D⟩;have hA4:=r.wrote D A;have s:=U hA4;clear hA4 A D;go_wp2;go_roundw;(case rel=>refine⟨n+1,l,by go_num,?_,s.aw⟩;rw[<-ae HS];have:=s.own;simpa[vy,eh]using this);case measure=>simp[intOf];omega);(have b:n=y a:=by omega);subst b;rw[aX]at c;have d:=U c;have j:=U e;clear c e;go_wp2;go_ret;exact⟨_,rfl,d,j⟩)
structure rE.Can(k:rE):Prop where
 size:k.size<=512
 c1:1<=k.count
 c2:k.count<=100
 f1:1<=k.first.size
 f8:k.first.size<=8
 l1:1<=k.last.size
 l8:k.last.size<=8
 le:iP k.last k.first=aY
def PI:(prog.info? 310).map (λi=>(i.zero,i.size,i.bytes))=H (H<|dW #[ap 0,ap 0,ap 0,aj ⟨#[]⟩,aj ⟨#[]⟩],5,56):=by kernel_rfl
def Ue(x c d u v:aa)(t:TypeId)(e:b=z (G a)):∀j q,[x,c,d,u,v][j]?=H q->aO (cF a<|ar #[x,c,d,u,v] t) (((R b 0):Addr).add j)=H q:=by
 intro j q f;subst e;rw[du];simp_all
def Uh(a:mq)(k:rE):eI (a++[k])=eI a++[ap k.pos,ap k.size,ap k.count,aj k.first,aj k.last]:=by simp[eI,rE.cells]
def JO(a b:ab):(Op.bytesLess a.toList b.toList||a.toList==b.toList)=!iP b a:=by rw[<-QZ];simp
def Ym(t:TypeId)(a b:ab):binOp .leq t (aj a) (aj b)=pure (aK<|Op.bytesLess a.toList b.toList||a.toList==b.toList):=by simp[binOp,Op.stringOp]
def Ir(s:ab)(w:Y)(b:1<=s.size)(c:s.size<=8):cD bz 84 #[aj s] w λe a=>e=aL (aK bU)/\a=w:=by
 grind[rj]
def Ws(k:rE)(w:Y)(h:k.Can):cD bz 273 #[k.value] w λo p=>o=aL (aK bU)/\p=cF w (ar #[ap k.pos,ap k.size,ap k.count,aj k.first,aj k.last] 310):=by
 obtain⟨pos,j,b,first,a⟩:=k;have l:=h.size;have m:=h.c1;have n:=h.c2;have e:=h.f1;have f:=h.f8;have g:=h.l1;have i:=h.l8;have q:(Op.bytesLess first.toList a.toList||first.toList==a.toList)=bU:=by rw[JO];simp only[h.le];rfl
 simp only at l m n e f g i;unfold rE.value;simp only;clear h;go_in
 go_wp2_with fail
 apply(Ir first _ e f).mono;rintro o d⟨rfl,c⟩;subst d;go_wp2_with fail
 apply(Ir a _ g i).mono;rintro o d⟨rfl,c⟩;subst d;go_wp2;go_ret;simp_all
def sV(a:mq):M:=(a.map rE.size).sum
def kF(a:mq):M:=(a.map rE.count).sum
def fS(a:mq):ab:=(a.getLast?.map rE.last).getD ⟨#[]⟩
structure Cu(ks:mq):Prop where
 ne:1<=y ks
 len:y ks<=100
 can:∀k∈ks,k.Can
 DL:kF ks<=100
 pos:∀n(h:n<y ks),ks[n].pos=sV (ks.take n)
 F6:∀n(h:n<y ks),iP (fS<|ks.take n) ks[n].first=bU
def Oz(a:mq)(k:rE):sV (a++[k])=sV a+k.size:=by simp[sV]
def Cm(a:mq)(k:rE):kF (a++[k])=kF a+k.count:=by simp[kF]
def wv(a:mq)(k:rE):fS (a++[k])=k.last:=by simp[fS]
def Ck(a:mq)(n:M):kF (a.take n)<=kF a:=by
 have h:=bX (λl=>(l.map rE.count).sum)<|bN n a;simp only[aQ,eR]at h;unfold kF;omega
def Lp{ks:mq}(h:∀k∈ks,k.Can):sV ks<=512*y ks:=by
 induction ks with
 |nil=>simp[sV]
 |cons k ks b=>
  have a:=(h k<|by simp).size;have c:=b (λj a=>h j<|by simp[a]);unfold sV at*;grind
def rE.Can.fits{k:rE}(h:k.Can):k.Fits:=⟨by have:=h.size;omega,by have:=h.c2;omega,by have:=h.f8;omega,by have:=h.l8;omega⟩
def AQ(s:ab)(b:s.size<=255):kE (eh s):=by
 intro x a;unfold eh at a;rcases bH.1 a with rfl|a;omega;exact kE.text s x a
def Wo{k:rE}(h:k.Fits):kE (vy k):=(kE.le 4 _).append<|(kE.le 4 _).append<|(AQ _ h.first).append<|AQ _ h.last
def JZ(h:∀k∈B,k.Fits):kE (B.flatMap vy):=by
 intro x a;obtain⟨k,b,a⟩:=mD.1 a;exact Wo (h k b) x a
structure KN(w0 w:Y)(rb:M)(num cut isz sum:Z)(ks:mq)(o:aa)(n:M):Prop where
 own:w.ownsRow (z<|G w0) 310 5 o n (eI<|ks.take n)
 rd:Rd w rb ((ks.drop n).flatMap vy) aY
 box:w.heap[z<|G w0]?=H (ar #[aJ num,dq cut,dq isz,dq sum] 289 (0,0))
 aw:I az w0 w
 Vc:z (G w0)<rb
 wN:∀k,ct o=H k->rb<k
def Ee(eg m K:M)(num:Z)(hT:Steps a)(hP:Cu B)(hb:Bytes a (bB eg m (y<|fo B) K) (fo B)):cD bz 239 #[bB eg m (y<|fo B) K,dW #[aJ num,dq (sV B:M),dq (y (fo B):M),dq<|ng<|fo B]] a λP w'=>
 ∃b,P=aL (dw #[b,aK bU])/\w'.ownsRow (z<|G a) 310 5 b (y B) (eI B)/\I az a w':=by
 have t:∀l∈B,l.Fits:=λl j=>(hP.can l j).fits
 have dd:y (fo B)<=52004:=by
  have h1:=li t;have b:=hP.len;unfold fo;rw[af,cC];omega
 have bq:0<y (fo B):=by unfold fo;rw[af,cC];omega
 have dx:sV B<=51200:=by have:=Lp hP.can;have:=hP.len;omega
 obtain⟨i0,bp,cj,ck,cm⟩:=cH PI
 obtain⟨bb,hL⟩:∃bb,y (fo B)=bb:=⟨_,rfl⟩
 obtain⟨bc,hS⟩:∃bc,sV B=bc:=⟨_,rfl⟩
 obtain⟨cn,hN⟩:∃cn,y B=cn:=⟨_,rfl⟩
 rw[hL]at dd bq
 rw[hS]at dx
 rw[hL,hS]
 have e1:IntKind.i64.wrap (bb:Z)=bb:=by rw[bw];omega
 have e2:IntKind.i64.wrap (bc:Z)=bc:=by rw[bw];omega
 have cb:∀cM,cM.heap=(cF a<|ar #[aJ num,dq bc,dq bb,dq<|ng<|fo B] 289).heap->cD bz 217 #[bB eg m bb K] cM λP w'=>P=aL (dq<|ng<|fo B)/\w'=cM:=by
  intro cM b;refine sA _ (fo B) cM ((hT.alloc _).of_heap b) ?_ (by omega);rw[<-hL];exact(hb.alloc _).of_heap b
 have ej:eg<z (G a):=hb.lt (by grind) eg rfl
 obtain⟨HB,HT,HP,HF,HL,HS,HN⟩:=xV hb hT hP t hL hS hN
 clear hb hT hP t hL hS hN
 generalize ng (fo B)=ei at*
 go_in
 go_wp2_with fail
 go_quiet(first|(go_at_call 217;refine Calls.quiet_of_same (cb _ rfl)))
 have L:∃f,(cF a<|ar #[aJ num,dq bc,dq bb,dq ei] 289).drewN nq=f/\I az a f/\f.heap[z<|G a]?=H (ar #[aJ num,dq bc,dq bb,dq ei] 289 (0,0))/\Bytes f (bB eg m bb K) (fo B)/\z (G a)<z (G f):=by
  refine⟨_,rfl,(cK az a).of_heap rfl,aB _ rfl,?_,by simp⟩;have:=HB.alloc<|ar #[aJ num,dq bc,dq bb,dq ei] 289;rw[ae HL]at this;exact this.of_heap rfl
 obtain⟨f,L,ce,bt,bl,cl⟩:=L
 rw[L]
 have dn:=nr bl (by intro l j;cases j;grind)
 have cE:=U ce
 have bg:=U bt
 clear L ce bt bl
 go_wp2_with fail
 apply dn.mono
 rintro P w2⟨rfl,V,ba⟩
 subst ba
 have cT:=HP.ne
 have db:=HP.len
 rw[ae HN]at cT db
 have S:fo B=le 4 (cn:M)++B.flatMap vy:=by unfold fo;rw[ae HN]
 have ed:=si (z<|G f) (cn:M) (B.flatMap vy) _ (S▸V) (JZ HF) (by have:=li HF;rw[ae HN]at this;omega) (by omega)<|by omega
 clear V S
 go_wp2_with fail
 apply ed.mono
 rintro P w3⟨rfl,W,au⟩
 have cB:=U W
 have cq:=U au
 have ef:=au.size
 simp at ef
 clear W au
 go_wp2_with(first
  |(at_make;go_loud(refine jJ _ rfl _ _ 306 rfl (z (G a)) 310 i0 (.agg #[.int .i64 0,.int .i64 0,.int .i64 0,.string ⟨#[]⟩,.string ⟨#[]⟩]) 5 underlying306 bp cj ck _ _ _ cn rfl rfl (by omega) (by rw[cm];omega) (by unfold maxLen;omega) (by omega) ?_;intro w4 T Q;have cv:=U T;have ac:=U Q;clear T Q)))
 have es:=ac.size
 have hA0:KN a w4 (z<|G f) num bc bb ei B (bB (z<|G w3) 0 0 cn) 0:=by
  have c:I (λl=>l=z (G f)) f w3:=(cK (λl=>l=z (G f)) f).trans (fm cq)<|λ_ h=>.inl h;have b:I (λl=>l=z (G f)) f w4:=c.cr (I.dJ (S:=az) ac<|by simp);refine⟨cv,cB.laid ac,(b.block _ (am bg)<|by grind).trans bg,cE.trans b (λl j=>.inr<|by omega),cl,?_⟩;intro l j;simp[ct]at j;omega
 have co:=U hA0
 clear hA0
 go_loopw [8,9,10,11,39] (λo p q l i wr=>∃n:M,n<=cn/\i=dq n/\p=ap (sV (B.take n):M)/\q=ap (kF (B.take n):M)/\l=aj (fS<|B.take n)/\KN a wr (z<|G f) num bc bb ei B o n) (λ_ _ _ _ i _=>cn-(intOf i).toNat)
 case atStart=>exact⟨0,bj _,rfl,rfl,rfl,rfl,co⟩
 case round=>
  obtain⟨n,eo,rfl,rfl,rfl,rfl,e⟩:=hrel;have s:=e.own;obtain⟨ox,oc,ho⟩:=aA s;have en:=e.rd.lt;have et:=e.aw.size;have aq:=Ck B n;have dc:=HP.DL;by_cases bs:n<cn
  .have p:n<y B:=by rw[ae HN];exact bs
   have g:=HP.can B[n]<|ak p;have C:=HP.pos n p;have x:=HP.F6 n p;have k:=e.rd;rw[aZ p,dF]at k;have A:kE ((B.drop<|n+1).flatMap vy):=JZ<|λl j=>HF l<|dK j;have dm:y ((B.drop<|n+1).flatMap vy)<=52000:=by
    have h1:=li (ks:=B.drop<|n+1)<|λl j=>HF l<|dK j;grind[ae]
   have D:B.take (n+1)=B.take n++[B[n]]:=ah p;have X:sV (B.take n)<=51200:=by
    have h1:=Lp (ks:=B.take n)<|λl j=>HP.can l<|fJ j;grind
   rw[<-C]at X|-;have bi:=U C;have F:=U D;generalize B[n]=l at*;generalize hR:(B.drop<|n+1).flatMap vy=ao at*;have HR:=U hR;clear hR;have u:=λcM=>Ws l cM g;have dk:=g.fits;obtain⟨pos,d,b,first,c⟩:=l;have f1:=g.size;have f2:=g.c2;have f3:=g.f8;have f4:=g.l8;simp only at f1 f2 f3 f4 X x;unfold vy at k;simp only[bD]at k;unfold rE.value at u;simp only at u;have a8:(Op.bytesLess first.toList (fS<|B.take n).toList||first.toList==(fS<|B.take n).toList)=aY:=by rw[JO,x];rfl
   have av:kE (eh c++ao):=(AQ _<|by omega).append A;have ax:kE (eh first++(eh c++ao)):=(AQ _<|by omega).append av;have br:kE (le 4 b++(eh first++(eh c++ao))):=(kE.le 4 _).append ax;have ek:y (eh c)<=9:=by unfold eh;rw[aS,hZ];omega
   have el:y (eh first)<=9:=by unfold eh;rw[aS,hZ];omega
   have e3:IntKind.i64.wrap (d:Z)=d:=by rw[bw];omega
   have e4:IntKind.i64.wrap (b:Z)=b:=by rw[bw];omega
   have ea:=si (z<|G f) (d:M) _ wr k br (by grind[length_append,cC]) (by omega) (by omega);obtain⟨cs,cu,bf,HA,bh⟩:=je av ax A e (show∀(x:Bool)(a:Y),(Op.unary .not<|aK x).run bz a=.ok (aK<|!x) a fromλ_ _=>rfl);clear e s k av ax br A g x dk C D;subst ho;generalize fS (B.take n)=ll at*;obtain⟨cc,v⟩:∃cc,kF (B.take n)=cc:=⟨_,rfl⟩;rw[v]at aq|-;have cp:=U v;clear v;go_wp2_with fail
   apply ea.mono;rintro P w5⟨rfl,bv,bm⟩;have ba:=si (z<|G f) (b:M) _ w5 bv cu (by grind) (by omega) (by omega);have ad:=U bm;clear bv bm;go_wp2_with fail
   apply ba.mono;rintro P w6⟨rfl,bx,bn⟩;have eb:=QB (z<|G f) first w6 bx cs (by grind) (by omega)
   have al:=U bn;clear bx bn;go_wp2_with fail
   apply eb.mono;rintro P w7⟨rfl,bT,bo⟩;have ec:=QB (z<|G f) c w7 bT bf (by omega) (by omega);have an:=U bo;clear bT bo;go_wp2_with fail
   apply ec.mono;rintro P w⟨rfl,ca,O⟩;have HX:=U (show∀o2 o,o.ownsRow (z<|G a) 310 5 o2 (n+1) (eI (B.take n)++[ap pos,ap d,ap b,aj first,aj c])->eL (cF (cF (cF w<|ar #[ap pos,ap d,ap b,aj first,aj c] 310)<|ar #[ap pos,ap d,ap b,aj first,aj c] 310)<|ar #[ap pos,ap d,ap b,aj first,aj c] 310) o (J ox n oc) o2->Cw o (z<|G w) ⟨pos,d,b,first,c⟩/\KN a o (z<|G f) num bc bb ei B o2 (n+1)from by
    intro o2 o r i;have e:=ae HA;have E:I (λl=>l=z (G f)) wr w:=(((fm ad).trans (fm al)<|λ_ h=>.inl h).trans (fm an)<|λ_ h=>.inl h).trans (fm O)<|λ_ h=>.inl h;have cd:=E.size;have bu:=e.own.lt;have ch:I (λl=>ct (J ox n oc)=H l) w o:=((((I.refl (λl=>ct (J ox n oc)=H l) w).alloc _).alloc _).alloc _).trans (I.eT i)<|λ_ h=>.inl h;have N:Cw (cF w<|ar #[ap pos,ap d,ap b,aj first,aj c] 310) (z<|G w) ⟨pos,d,b,first,c⟩:=aB _ rfl;have dT:I (λl=>ct (J ox n oc)=H l) (cF w<|ar #[ap pos,ap d,ap b,aj first,aj c] 310) o:=(((I.refl (λl=>ct (J ox n oc)=H l) _).alloc _).alloc _).trans (I.eT i)<|λ_ h=>.inl h;have bk:=e.wN;refine⟨N.aw dT (λP=>by have:=(bu _ P).2;omega),?_,?_,?_,?_,e.Vc,?_⟩
    .rw[ae F,Uh];exact r
    .have ds:=((ca.laid<|dt w (ar #[ap pos,ap d,ap b,aj first,aj c] 310) none).laid<|dt _ (ar #[ap pos,ap d,ap b,aj first,aj c] 310) none).laid<|dt _ (ar #[ap pos,ap d,ap b,aj first,aj c] 310) none;have dv:=ds.wrote i bk;rw[ae HR];exact dv
    .exact(ch.block _ (by omega) (λP=>by have:=bk _ P;have:=e.Vc;omega)).trans<|(E.block _ (am e.box) (λP=>by have:=e.Vc;omega)).trans e.box
    .exact(e.aw.trans E<|λl j=>.inr (by have:=e.Vc;omega)).trans ch<|λl j=>.inr (bu l j).1
    .intro l j;rcases i.ur with ey|⟨ex,ey,hy⟩
     .simp_all
     .rw[ey]at j;cases j;simp at hy;omega)
   have cd:z (G f)<z (G w):=by
    have:=ad.size;have:=al.size;have:=an.size;have:=O.size;omega
   have cx:=U (show w.ownsRow (z<|G a) 310 5 (J ox n oc) n (eI<|B.take n)from by
    have e:=ae HA;have E:I (λl=>l=z (G f)) wr w:=(((fm ad).trans (fm al) (λ_ h=>.inl h)).trans (fm an) (λ_ h=>.inl h)).trans (fm O) (λ_ h=>.inl h);exact E.own e.own (λl j P=>by have:=e.wN l j;omega))
   have em:=ae bh;clear ca O;go_wp2_with fail
   apply(u _).mono;rintro P w9⟨rfl,eq⟩;subst w9;go_wp2_with(first
    |(at_builtin;go_loud(refine bO _ rfl (.tmp 62) (.tmp 64) 306 rfl (z (G a)) 310 i0 (.agg #[.int .i64 0,.int .i64 0,.int .i64 0,.string ⟨#[]⟩,.string ⟨#[]⟩]) 5 56 underlying306 bp cj ck cm rfl (by decide) (.slice ox n oc) n (eI (B.take n)) rfl (aN (aN (aN cx _) _) _) (R (z (G w)+2) 0) 1 1 [.int .i64 pos,.int .i64 d,.int .i64 b,.string first,.string c] rfl rfl (Ue _ _ _ _ _ _ (by simp)) (by simp[Value.oneCell']) (by omega) (by omega) (by simp;omega) ?_;intro o2 o r i;obtain⟨N,hA10⟩:=HX o2 o r i;obtain⟨m0,m1,m2,m3,m4⟩:=N.cells;simp only at m0 m1 m2 m3 m4;obtain⟨ev,eu,rfl⟩:=aA r;have bd:=U hA10;clear r i hA10 N)))
   go_quiet(fail)
   go_wp2;go_roundw;case rel=>
    refine⟨n+1,bs,by go_num,?_,?_,?_,?_⟩
    .rw[ae F,Oz,<-ae bi];go_num
    .rw[ae F,Cm,ae cp];go_num
    .rw[ae F,wv]
    .have e:=ae bd;exact⟨e.own,e.rd,e.box,e.aw.of_heap rfl,e.Vc,e.wN⟩
   case measure=>simp[intOf];omega
  .have i:n=cn:=by omega
   subst i;have b:B.take n=B:=by rw[<-ae HN,aX]
   have k:=e.rd;have d:B.drop n=[]:=by rw[<-ae HN,gh]
   rw[d]at k;have c:=ye k (by simp);simp only[uU,qV,nI,ux]at c;have r:=cellAt e.box 1 rfl;rw[b]at aq|-;rw[ae HS];rw[ho,b]at s;have p:=U s;have g:=U e.aw;clear e s k d b;obtain⟨cc,v⟩:∃cc,kF B=cc:=⟨_,rfl⟩;rw[v]at dc aq|-;clear v;have o:((cc:Z)<=100)=True:=by simp;omega
   subst ho;go_wp2_with fail
   apply c.mono;rintro P w5⟨rfl,u⟩;subst w5;go_wp2;go_ret2
   exact⟨_,rfl,by rw[ae HN];exact p,g⟩
def qI.trans{w w' d:Y}{a:DK}(h:qI w w' c j P)(k:qI w' d c P a):qI w d c j a:=⟨k.ok,h.aw.trans k.aw<|λx e=>h.aU x e,λx e=>(k.aU x e).elim (λg=>h.aU x g)<|λg=>.inr<|aC h.aw.size g⟩
def qI.refl(h:cQ a b j):qI a a b j j:=⟨h,I.refl _ _,λ_ c=>.inl c⟩
abbrev Fs:=cw<|ab×eO
def vw(a:cw df):Fs:=a.map<|λf=>(f.name,f.bytes)
def dX:Fs->ab->Option eO
 |[],_=>none
 |f::r,n=>if f.1=n then H f.2 else dX r n
def vF:Fs->ab->Fs
 |[],_=>[]
 |f::r,n=>if f.1=n then r else f::vF r n
def tu:Fs->ab×eO->Fs
 |[],f=>[f]
 |g::r,f=>if g.1=f.1 then f::r else g::tu r f
def ij(a:Fs):M:=(a.map (·.2.length)).sum
def KZ(a:cw df):uB a=ij (vw a):=by
 unfold uB ij vw;rw[iz];rfl
theorem Kg(a:cw df)(n:ab):dX (vw a) n=(sd a n).map df.bytes:=by
 induction a with
 |nil=>rfl
 |cons f r b=>
  unfold vw at*;by_cases h:f.name=n<;>simp[dX,sd,h,b]
def UC(a:cw df)(n:ab):vw (pR a n)=vF (vw a) n:=by
 induction a with
 |nil=>rfl
 |cons f r b=>
  unfold vw at*;by_cases h:f.name=n<;>simp[vF,pR,h,b]
def DY(a:cw df)(f:df):vw (rh a f)=tu (vw a) (f.name,f.bytes):=by
 induction a with
 |nil=>rfl
 |cons g r b=>
  unfold vw at*;by_cases h:g.name=f.name<;>simp[tu,rh,h,b]
theorem Ca{a:Fs}(h:dX a W=H p):tu a (W,p)=a:=by
 induction a with
 |nil=>cases h
 |cons g r c=>
  obtain⟨b,d⟩:=g;by_cases e:b=W
  .subst e;simp[dX]at h;simp[tu,h]
  .simp[dX,e]at h;simp[tu,e,c h]
def Iu{a:Fs}(f d:eO)(h:dX a W=none):tu (a++[(W,f)]) (W,d)=a++[(W,d)]:=by
 induction a with
 |nil=>simp[tu]
 |cons g r c=>
  obtain⟨b,i⟩:=g;by_cases e:b=W
  .simp[dX,e]at h
  .simp[dX,e]at h;simp[tu,e,c h]
def jM(a b:Fs)(n:ab):dX (a++b) n=(dX a n).or (dX b n):=by
 induction a with
 |nil=>simp[dX]
 |cons g r c=>by_cases e:g.1=n<;>simp[dX,e,c]
def vD(b:Fs)(f:ab×eO)(n:ab):dX (tu b f) n=if f.1=n then H f.2 else dX b n:=by
 induction b with
 |nil=>by_cases e:f.1=n<;>simp[tu,dX,e]
 |cons h r g=>
  by_cases e:h.1=f.1
  .by_cases a:f.1=n<;>simp[tu,dX,e,a]
  .by_cases a:h.1=n
   .have c:¬f.1=n:=λb=>e<|a.trans b.symm;have d:¬n=f.1:=λb=>c b.symm;simp[tu,dX,a,c,d]
   .simp[tu,dX,e,a,g]
def xZ{a:Fs}(h:dX a W=H p):(W,p)∈a:=by
 induction a with
 |nil=>cases h
 |cons g r d=>
  obtain⟨b,c⟩:=g;by_cases e:b=W
  .subst e;simp[dX]at h;simp[h]
  .simp[dX,e]at h;grind
def uK(a b:Fs):ij (a++b)=ij a+ij b:=by simp[ij]
def ju{a:cw df}(h:dX (vw a) W=H p):∃F,sd a W=H F/\F.bytes=p:=by
 rw[Kg]at h;simp_all
def wz{a:cw df}(h:dX (vw a) W=none):sd a W=none:=by
 rw[Kg]at h;simp_all
def GX{db:M}{K:DK}(a:ab)(an b j:M){bs:eO}{w:Y}(h:cQ w db K)(B:dX (vw K.files) a=none)(hn:y K.eJ<=1000000000000)(e:ij (vw K.files)+y bs<=1099511627776)(E:kE bs)(u:∀ao aq,(bs.map<|Value.int .u8)[ao]?=H aq->aO w (R an<|b+ao)=H aq)(i:an<z (G w))(t:¬K.aU db an):cD bz 227 #[ay db,aj a,bB an b (y bs) j] w λQ p=>Q=aL .nilIface/\∃c,qI w p db K c/\vw c.files=vw K.files++[(a,bs)]/\y c.eJ=y K.eJ+1:=by
 have D:=wz B;have al:=Dg a h (BY D) hn
 have HX:=U (show∀r f,qI w r db K f->f.files=K.files++[⟨a,z<|G w,aD,[],0⟩]->cD bz 151 #[ay db,aj a,bB an b (y bs) j] r λQ p=>Q=aL .nilIface/\∃c,qI r p db f c/\vw c.files=vw K.files++[(a,bs)]/\c.eJ=f.eJ from by
  intro r f v hf;have q:vw f.files=vw K.files++[(a,[])]:=by rw[hf];simp[vw]
  have C:dX (vw f.files) a=H []:=by rw[q,jM,B];simp[dX]
  obtain⟨au,hF,d⟩:=ju C;refine(IN a au an b j bs v.ok hF (by rw[KZ,q,uK];simp[ij]at e|-;omega) E (λao aq hj=>v.aw.cell (u ao aq hj) t i) (ag i v.aw.size) (by rw[d];simp)).mono ?_;rintro Q p⟨rfl,c,k,⟨av,n⟩,o⟩;refine⟨rfl,c,k,?_,o⟩;rw[n,DY];simp only[d,cU,(kI hF).1];rw[q];exact Iu [] bs B)
 have HY:=U (show∀s g,cQ s db g->vw g.files=vw K.files++[(a,bs)]->cD bz 102 #[ay db,aj a] s λQ p=>Q=aL .nilIface/\∃c,qI s p db g c/\vw c.files=vw K.files++[(a,bs)]/\c.eJ=g.eJ from by
  intro s g v q;have C:dX (vw g.files) a=H bs:=by rw[q,jM,B];simp[dX]
  obtain⟨au,hF,d⟩:=ju C;refine(QC a au v hF (by rw[d];omega)).mono ?_;rintro Q p⟨rfl,c,k,n,o⟩;refine⟨rfl,c,k,?_,o⟩;rw[n,DY];simp only[d,(kI hF).1];rw[Ca C,q])
 clear h B D u e t E;go_in
 go_wp2_with fail
 apply al.mono;rintro Q r⟨rfl,f,l,A,F⟩;have ha:=HX r f l A;have S:=U l;have W:=U F;clear l A F;go_wp2_with fail
 apply ha.mono;rintro Q s⟨rfl,g,m,O,L⟩;have hs:=HY s g m.ok O;have T:=U m;have X:=U L;clear m O L;go_wp2_with fail
 apply hs.mono;rintro Q w3⟨rfl,K3,x,P,N⟩;obtain⟨V,ad,ac⟩:=dA x P N;clear x P N;go_wp2;go_ret;exact⟨rfl,K3,(S.trans T).trans V,ad,by rw[ae ac,ae X,ae W]⟩
def LU{db:M}{K:DK}(a:ab)(i:eO){w:Y}(h:cQ w db K)(m:dX (vw K.files) a=H i)(k:y i<=1099511627776):cD bz 107 #[ay db,aj a] w λx p=>∃o,x=aL (dw #[o,.nilIface])/\eP p (z<|G w) o i/\∃g,qI w p db K g/\g.files=K.files/\g.eJ=K.eJ/\∀C,g.aU db C->K.aU db C:=by
 obtain⟨F,hF,rfl⟩:=ju m;have l:=XL a F h hF (by omega);have f:=BK a F 0 (y F.bytes) h hF k (bj _) k;rw[List.drop_zero,aX]at f;generalize F.bytes=i at*;clear h m hF k;go_in
 go_wp2_with fail
 apply l.mono;rintro x q⟨rfl,A⟩;subst q;go_wp2_with fail
 apply f.mono;rintro x q⟨B,rfl,n,v,b,c,e,d,_⟩;obtain⟨u,r,s,t,j⟩:=je n b c e d;clear n b c e d;go_wp2;go_ret2
 exact⟨B,rfl,u,v,r,s,t,j⟩
def Hu{db:M}{K:DK}(a:ab){w:Y}(h:cQ w db K)(c:dX (vw K.files) a=none):cD bz 107 #[ay db,aj a] w λg e=>g=aL (dw #[aD,.iface 223<|ay<|z<|G w])/\e=cF w (ar #[aj a,ap 10] 227):=by
 have b:=RW _ a h.iq h.now<|BY<|wz c;clear h c;go_in
 go_wp2_with fail
 apply b.mono;rintro g f⟨rfl,d⟩;subst f;go_wp2;go_ret2
 simp_all
def uE(i:a.ownsRow b c g d l x)(m:0<l):∃f e,d=bB f 0 l e/\b<=f/\f<z (G a)/\l<=e:=by
 obtain⟨j,⟨_,k⟩|⟨f,e,h,n,o,p,q,_⟩⟩:=i;omega;grind
structure NX(w0 w:Y)(tb:M)(l:cJ)(cs:dL)(bb wZ db GK:M):Prop where
 pieces:qB l cs
 mem:lS w tb (fj none) 0 0 0 0 bb 0 wZ (bB db 0 (y<|dG cs) GK) (bS 0 cs)
 data:eP w (z<|G w0) (bB db 0 (y<|dG cs) GK) (dG cs)
 GN:w.ownsRow (z<|G w0) 310 5 (bB bb 0 (y<|bS 0 cs) wZ) (y<|bS 0 cs) (eI<|bS 0 cs)
 new:z (G w0)<=tb
 aw:I az w0 w
def Ei(s:cJ)(x d l:M)(W:Y)(N:Steps W)(S:x<z (G W))(O:∀ac ad,(aF s)[ac]?=H ad->aO W (R x<|d+ac)=H ad)(u:y s<=l)(v:0<y s)(m:∀an∈s,an.Good)(X:dM s)(i:∀x∈ic s,y x<=10)(V:y s<=1000000):cD bz 147 #[bB x d (y s) l] W λal k=>∃j c e a f b,al=aL (ay j)/\NX W k j s c e a f b:=by
 have w:=EJ x d l N S O u v m X i V
 have E:=U (show∀o r c k,qB s c->eP k (z<|G W) o (dG c)->k.ownsRow (z<|G W) 310 5 r (y c) (eI<|bS 0 c)->I az W k->∃e a f b,r=bB e 0 (y<|bS 0 c) a/\o=bB f 0 (y<|dG c) b/\NX W (cF k<|ar #[fj none,aJ 0,dq 0,dq 0,dq 0,bB e 0 (y<|bS 0 c) a,bB f 0 (y<|dG c) b] 308) (z<|G k) s c e a f b from by
  intro o r c k n p i q;rw[<-km c 0]at i;have g:0<y (bS 0 c):=by
   rw[km];rcases gB (y c)with K|K
   .obtain rfl:=aP K;have:=n.flat;grind
   .exact K
  have t:0<y (dG c):=by
   rw[km]at g;have:=Kl c 0 g;omega
  have Q:=n.length;obtain⟨e,a,rfl,b1,b2,F⟩:=uE i g;obtain⟨f,b,rfl,d1,d2,d3⟩:=uE p t;refine⟨e,a,f,b,rfl,rfl,n,⟨aB _ rfl,?_,g,F,by rw[km];omega⟩,p.alloc _,aN i _,q.size,q.alloc _⟩;intro ac ad hj;obtain⟨h1,⟨L,h0⟩|⟨b',B,A,L,_,P⟩⟩:=da<|aN i<|ar #[fj none,aJ 0,dq 0,dq 0,dq 0,bB e 0 (y<|bS 0 c) a,bB f 0 (y<|dG c) b] 308
  .omega
  grind)
 go_in
 go_wp2_with(go_at_call 203;refine w.mono ?_;rintro al C⟨o,r,c,rfl,n,p,i,q⟩;obtain⟨e,a,f,b,rfl,rfl,hF⟩:=E o r c C n p i q;have D:=U hF;clear n p i q hF)
 go_ret;exact⟨z<|G C,c,e,a,f,b,rfl,D⟩
def zC:∀(a:dL)(p:M),sV (bS p a)=y (dG a)
 |[],_=>by simp[sV,bS,dG]
 |c::a,p=>by
  have h:=zC a<|p+(y (fI c)+4);unfold sV at*;rw[bS,bZ,oG,h,pq,af,gy];rfl
def Cn:∀(a:dL)(p:M),kF (bS p a)=y a.flatten
 |[],_=>by simp[kF,bS]
 |c::a,p=>by
  have h:=Cn a<|p+(y (fI c)+4);unfold kF at*;rw[bS,bZ,oG,h,bG,af];rfl
def Nw(n:M):∀(a:dL)(p:M),(bS p a).take n=bS p (a.take n):=by
 induction n with
 |zero=>intro a p;simp[bS]
 |succ n b=>
  intro a p;cases a with
  |nil=>simp[bS]
  |cons c a=>rw[bS,kM,b,kM,bS]
def qB.idx(l:qB L k)(j:L≠[])(i:∀x∈L,x.Good)(w:dM L)(v:y L<=100):Cu (bS 0 k):=by
 have a:=l.qQ j i w;have r:=l.length;have d:∀a∈k,∀x∈a,x∈L:=λa c x b=>by rw[<-l.flat];grind[mem_flatten]
 refine⟨?_,?_,?_,?_,?_,?_⟩;rw[a.len];exact a.ne;rw[a.len];omega;intro A u;obtain⟨m,q,rfl⟩:=dO u;(have c:m<y k:=by rw[<-a.len];exact q);have o:=a.EQ m q c;have b:=ak c;have t:=l.fit _ b;have h:=i _<|d _ b _<|ak o.ne;have p:=i _ (d _ b _<|ak<|show y k[m]-1<y k[m]by omega);have g:dM k[m]:=a.mh.sub<|cS b;(have s:y k[m]<=y L:=by rw[<-l.flat];exact(cS b).length_le);refine⟨by rw[o.size];exact t.2,by rw[o.count];exact o.ne,by rw[o.count];omega,by rw[o.first];exact h.Wd,by rw[o.first];exact h.MS,by rw[o.last];exact p.Wd,by rw[o.last];exact p.MS,?_⟩;rw[o.first,o.last];exact g.DG o.ne<|ak _;rw[Cn,l.flat];exact v;intro n f;(have c:n<y k:=by rw[<-a.len];exact f);rw[Nw,zC,a.pos n f]
 .intro n f;have c:n<y k:=by rw[<-a.len];exact f
  have o:=a.EQ n f c;have h:=i _<|d _ (ak c) _<|ak o.ne;cases n with
  |zero=>
   rw[sJ];show iP ⟨#[]⟩ _=bU;rw[o.first];cases e:iP ⟨#[]⟩ (k[0][0]'o.ne).key with
   |true=>rfl
   |false=>
    have b:=nC e<|DI _;have:=h.Wd;rw[<-b]at this;exact absurd this<|by decide
  |succ n=>
   have g:n<y (bS 0 k):=by omega
   have b:n<y k:=by omega
   rw[ah g,wv];have m:=a.EQ n g b;rw[m.last,o.first];exact(cN.1 a.Dz n (n+1) b c<|by omega) _ (ak _) _<|ak _
def mR(a:dL):eO:=dG a++fo (bS 0 a)
def Pf(h:a.ownsRow b c g d l x):∀k,ct d=H k->k<z (G a):=λk e=>(aG h k e).2
def GL{α β:Type}(K:α->β->Prop){b:α}{c:β}{a:Prop}(h:K b c->a)(k:K b c):a:=h k
def XE{l m n o p k q a' b' c' d' e' g':aa}{t:TypeId}{c:M×M}(r:a.heap[b]?=H (ar #[l,m,n,o,p,k,q] t c)):(cA (cA (cA (cA (cA (cA a (R b 0) a') (R b 1) b') (R b 2) c') (R b 3) d') (R b 4) e') (R b 6) g').heap[b]?=H (ar #[a',b',c',d',e',k,g'] t c):=by
 have d:=aT (i:=0) (u:=a') r;have e:=aT (i:=1) (u:=b') d;have f:=aT (i:=2) (u:=c') e;have g:=aT (i:=3) (u:=d') f;have h:=aT (i:=4) (u:=e') g;have j:=aT (i:=6) (u:=g') h;rw[j];simp
def Jd{e n D L:M}{N F O m0:Z}(o:lS a b (fj none) N F O m0 A Q e d (bS 0 k))(p:I (λh=>h=l) a f)(i:qI f C c j P)(hv:vw P.files=vw j.files++[(fC g,mR k)])(hn:y P.eJ=y j.eJ+1)(u:C.heap[b]?=H (ar #[fj none,aJ N,dq F,dq O,dq m0,bB A Q (y<|bS 0 k) e,bB l 0 D n] 308 (0,0)))(ac:¬j.aU c b)(v:¬j.aU c A)(w:A≠b)(x:A≠l)(X:y (dG k)=D)(hL:y (fo<|bS 0 k)=L)(K:b<z (G a)):∃s,cQ (cA (cA (cA (cA (cA (cA C (R b 0)<|ay c) (R b 1)<|aJ g) (R b 2)<|dq D) (R b 3)<|dq L) (R b 4)<|dq<|ng<|fo<|bS 0 k) (R b 6) aD).drew c s/\I (λh=>j.aU c h\/h=b\/h=l) a (cA (cA (cA (cA (cA (cA C (R b 0)<|ay c) (R b 1)<|aJ g) (R b 2)<|dq D) (R b 3)<|dq L) (R b 4)<|dq<|ng<|fo<|bS 0 k) (R b 6) aD).drew/\(∀h,s.aU c h->j.aU c h\/z (G a)<=h)/\vw s.files=vw j.files++[(fC g,mR k)]/\y s.eJ=y j.eJ+1/\lS (cA (cA (cA (cA (cA (cA C (R b 0)<|ay c) (R b 1)<|aJ g) (R b 2)<|dq D) (R b 3)<|dq L) (R b 4)<|dq<|ng<|fo<|bS 0 k) (R b 6) aD).drew b (ay c) g (y<|dG k) (y<|fo<|bS 0 k) (ng<|fo<|bS 0 k) A Q e aD (bS 0 k):=by
 have r:=p.size;have q:=XE (a':=ay c) (b':=aJ g) (c':=dq D) (d':=dq L) (e':=dq<|ng<|fo<|bS 0 k) (g':=aD) u;have E:I (λh=>h=b) C (cA (cA (cA (cA (cA (cA C (R b 0)<|ay c) (R b 1)<|aJ g) (R b 2)<|dq D) (R b 3)<|dq L) (R b 4)<|dq<|ng<|fo<|bS 0 k) (R b 6) aD):=((((((gW b C).setCell b 1 _<|.inl rfl).setCell b 2 _<|.inl rfl).setCell b 3 _<|.inl rfl).setCell b 4 _<|.inl rfl).setCell b 6 _<|.inl rfl);generalize(cA (cA (cA (cA (cA (cA C (R b 0)<|ay c) (R b 1)<|aJ g) (R b 2)<|dq D) (R b 3)<|dq L) (R b 4)<|dq<|ng<|fo<|bS 0 k) (R b 6) aD)=wf at*;have m:I (λh=>h=b) C wf.drew:=E.of_heap rfl;have B:∀h,P.aU c h->j.aU c h\/z (G a)<=h:=λh t=>(i.aU h t).elim .inl (λb=>.inr<|by omega);refine⟨P,i.ok.aw m<|λh t S=>?_,?_,B,hv,hn,?_,?_,o.ne,o.le,o.small⟩;grind
 exact((p.mono (T:=λh=>j.aU c h\/h=b\/h=l)<|λh S=>.inl<|.inr<|.inr S).trans i.aw<|λh t=>.inl<|.inl t).trans m<|λh S=>.inl<|.inr<|.inl S;rw[X,hL];exact q;intro ad al hj;have V:=p.cell (o.cells ad al hj) x o.lt.2;have W:=i.aw.cell V v<|ag o.lt.2 r;exact m.cell W w<|ag o.lt.2<|aC r i.aw.size
def Je(bq:M)(hu:bq<18446744073709551616){n0 c0 s0 m0:Z}(E d:M)(f:dL)(h:lS a b (fj none) n0 c0 s0 m0 g l A (bB E 0 (y<|dG f) d) (bS 0 f))(hd:eP a Q (bB E 0 (y<|dG f) d) (dG f))(hb:Q<=z (G a))(hP:Cu (bS 0 f))(cm:kE (dG f))(hT:Steps a)(al:Pow a)(fe:y (dG f)<=100000)(B:cQ a c j)(hg:dX (vw j.files) (fC bq)=none)(hn:y j.eJ<=1000000000000)(bk:ij (vw j.files)+200000<=1099511627776)(et:¬j.aU c E)(bm:¬j.aU c b)(ek:¬j.aU c g)(el:g≠b)(em:g≠E):cD bz 166 #[ay b,ay c,aJ bq] a λax w'=>ax=aL .nilIface/\∃K',cQ w' c K'/\I (λV=>j.aU c V\/V=b\/V=E) a w'/\(∀V,K'.aU c V->j.aU c V\/z (G a)<=V)/\vw K'.files=vw j.files++[(fC bq,mR f)]/\y K'.eJ=y j.eJ+1/\lS w' b (ay c) bq (y<|dG f) (y<|fo<|bS 0 f) (ng<|fo<|bS 0 f) g l A aD (bS 0 f):=by
 have p:∀V∈bS 0 f,V.Fits:=λV hk=>(hP.can V hk).fits;have ez:=hP.len;have cs:=Jy (bS 0 f) g l A a h.lt.2 h.cells (by omega) p;have ff:y (fo<|bS 0 f)<=52004:=by have h1:=li p;unfold fo;rw[af,cC];omega
 have cl:0<y (fo<|bS 0 f):=by unfold fo;rw[af,cC];omega
 have ad:kE (fo<|bS 0 f):=(kE.le 4 _).append<|JZ p;have k:=h.box;have t0:=cellAt k 0 rfl;have t5:=cellAt k 5 rfl;have t6:=cellAt k 6 rfl;obtain⟨i0,en,eu,ev,ex⟩:=cH qw;obtain⟨D,W⟩:∃D,y (dG f)=D:=⟨_,rfl⟩;obtain⟨av,hL⟩:∃av,y (fo<|bS 0 f)=av:=⟨_,rfl⟩;have e1:=sR (n:=(D:M)) (by omega) (by omega);have e2:=sR (n:=(av:M)) (by omega) (by omega);have ca:=U (show∀v1 o,eP o (z<|G a) v1 (fo<|bS 0 f)->I az a o->∃F xc,v1=bB F 0 av xc/\z (G a)<=F/\F<z (G o)/\aO o (R b 6)=H (bB E 0 D d)/\b<z (G o)/\(∀es,I az o es->cD bz 217 #[bB F 0 av xc] es λax w'=>ax=aL (dq<|ng<|fo<|bS 0 f)/\w'=es)from by intro v1 o ho ht;obtain⟨F,xc,rfl,a1,a2,_⟩:=uE ho cl;rw[<-hL,<-W];refine⟨F,xc,rfl,a1,a2,ht.cell t6 id<|am k,ag (am k) ht.size,λes hW=>?_⟩;have eo:=ht.cr hW;exact sA _ (fo<|bS 0 f) es (hT.below (eo.below (ai _) cO) hT.lt) (eP.bytes<|hW.own ho<|λ_ _ cT=>cT)<|by omega);have dc:=U h;clear h;rw[W]at t6;go_in
 go_wp2_with fail
 apply cs.mono;rintro ax o⟨v1,rfl,bh,bl⟩;obtain⟨F,xc,rfl,y0,y1,y2,y3,C⟩:=ca v1 o bh bl;have bv:=U bh;have au:=U bl;have m:=am k;have ao:¬b=E:=λax=>by obtain⟨_,hc⟩:=fR hd (k:=E) rfl;grind
 clear bh bl t0 t5 cs;go_wp2_with fail
 rename_i QQ KK u;apply GL KK
 .intro bp;go_region_held3(λt=>aO t (R b 6)=H (bB E 0 D d)) (first|assumption|go_keep) (first
   |(go_at_call 217;refine(C o.drew<|ci _ _).mono ?_;rintro ax w2⟨rfl,es⟩;subst w2;have eo:aO o.drew (R b 6)=H (bB E 0 D d):=y2)
   |(go_at_call 217;refine(C (cF o (.cells #[.int .u64 0,.int .u32 0,.int .u32 0,.int .u32 0] 289)).drew ((cK _ o).of_heap rfl)).mono ?_;rintro ax w2⟨rfl,es⟩;subst w2;have eo:aO (cF o (.cells #[.int .u64 0,.int .u32 0,.int .u32 0,.int .u32 0] 289)).drew (R b 6)=H (bB E 0 D d):=(by rw[bY,ia y3];exact y2)))
  all_goals exact bp
 apply u;clear u C;have L:∃K,(cF o<|ar #[aJ bq,dq D,dq av,dq<|ng<|fo<|bS 0 f] 289).drew=K/\I az a K/\K.heap[z<|G o]?=H (ar #[aJ bq,dq D,dq av,dq<|ng<|fo<|bS 0 f] 289 (0,0))/\eP K (z<|G a) (bB F 0 av xc) (fo<|bS 0 f):=⟨_,rfl,(au.alloc _).of_heap rfl,aB _ rfl,bv.alloc _⟩;obtain⟨K,L,q,bd,cp⟩:=L;rw[L];have fk:z (G a)<=z (G o):=au.size;generalize z (G o)=r at*;clear L bv au ca y2 y3;have eB:=q.size;have ej:=hT.below (q.below (ai _) cO) hT.lt;have hS:aO K.drew (R b 6)=H (bB E 0 D d):=by rw[bY];exact q.cell t6 id m
 go_wp2_with fail
 rename_i QQ KK u;refine cI (λt=>aO t (R b 6)=H (bB E 0 D d)) 10 (by kernel_rfl) ?_;refine cY 0 ?_;iterate 2 (refine eM (v:=?_) hS rfl (by kernel_rfl) iW rfl ?_ ?_;rotate_left;(focus(intro t hX;go_simp;try rfl));simp only[Act.put,dD,Nat.reduceAdd])
 apply eC;refine cY 3 ?_;iterate 5 (refine eM (v:=?_) hS rfl (by kernel_rfl) iW rfl ?_ ?_;rotate_left;(focus(intro t hX;go_simp;try rfl));simp only[Act.put,dD,Nat.reduceAdd])
 apply eC;refine aM (i:=2) rfl rfl (by kernel_rfl) ?_;intro K2 cb;go_simp;have hx:=Pf hd E rfl;have an:Pow K.drew:=al.aw (q.of_heap rfl) id;apply(By bq hu an).mono;rintro ax W3⟨rfl,w⟩;have N:I az a W3:=(q.of_heap (c:=K.drew) rfl).cr<|I.aR (S:=az) w;have eq:=w.size;have fn:z (G K)<=z (G W3):=eq;have ch:aO W3 (R b 6)=H (bB E 0 D d):=N.cell t6 id m;have bf:W3.heap[r]?=H (ar #[aJ bq,dq D,dq av,dq<|ng<|fo<|bS 0 f] 289 (0,0)):=(w.block r<|am bd).trans bd;have cq:eP W3 (z<|G a) (bB F 0 av xc) (fo<|bS 0 f):=(I.aR (S:=az) w).own cp<|λ_ _ cT=>cT;have ck:eP W3 Q (bB E 0 D d) (dG f):=by rw[<-W];exact N.own hd<|λ_ _ cT=>cT
 refine cb _ _ (λ_=>ch) ?_;refine aM (i:=8) rfl rfl (by kernel_rfl) ?_;intro K8 cc;simp only[cy,bF,bQ];refine kH (.tmp 34) (.tmp 35) 135 rfl Q 5 i0 (tL 0) 1 1 underlying135 en eu ev ex rfl (by decide) (bB E 0 D d) D ((dG f).map<|Value.int .u8) rfl (by have h0:=ck;unfold eP at h0;rw[W]at h0;exact h0) (R F 0) av xc ((fo<|bS 0 f).map<|Value.int .u8) rfl (by rw[cV,hL,rF]) (tF cq.bytes) (by intro bq hu;simp only[bW]at hu;obtain⟨ey,_,rfl⟩:=hu;rfl) (by omega) (by omega) (by omega) ?_;intro v4 w4 bi bn;have bc:eP w4 Q v4 (mR f):=eP.of bi (by unfold mR;rw[af,W,hL]) (by unfold mR;rw[aQ]);have P:=I.eT bn;obtain⟨yb,yc,rfl,g1,g2,g3⟩:=uE bi (by omega);have O:I (λV=>V=E) a w4:=(N.mono (T:=λV=>V=E) cO).trans P (λV hk=>by simp[ct]at hk;grind);have bb:aO w4 (R b 6)=H (bB E 0 D d):=O.cell t6 (λax=>ao ax) m;have cn:w4.heap[r]?=H (ar #[aJ bq,dq D,dq av,dq<|ng<|fo<|bS 0 f] 289 (0,0)):=(P.block r (am bf) (λax=>by simp[ct]at ax;omega)).trans bf;have ac:cQ w4 c j:=B.aw O<|λV hk ax=>et<|ax▸hk;have ba:D+av=y (mR f):=by unfold mR;rw[af,W,hL]
 have cv:¬j.aU c yb:=by intro cT;rcases bn.ur with eo|⟨ey,eo,hy⟩;simp[ct]at eo;grind;simp[ct]at eo;subst eo;have:=B.lt _ cT;omega
 have bo:=GX (db:=c) (K:=j) (fC bq) yb 0 yc (bs:=(mR f)) (w:=w4) ac hg hn (by omega) (cm.append ad) (Bytes.cells (by rw[<-ba];exact bc.bytes)) g2 cv;rw[<-ba]at bo;obtain⟨db,dk,aq,s⟩:=gH bc P cn O;clear ba cv bi bn bc P cn O g1 g2 g3 ck cq bf ch w;refine cc _ _ (λ_=>bb) ?_;simp only[Act.put,dD];refine aM (i:=9) rfl rfl (by kernel_rfl) ?_;intro K9 cd;go_simp;apply bo.mono;rintro ax w5⟨rfl,K5,x,cu,co⟩;have cj:aO w5 (R b 6)=H (bB E 0 D d):=x.aw.cell bb bm<|ag m s.size;refine cd _ _ (λ_=>cj) ?_;refine aM (i:=10) rfl rfl (by kernel_rfl) ?_;intro fb X;go_simp;refine X _ _ wX ?_;refine cW (by kernel_rfl) ?_ _;show KK _ _;apply u;clear u cb cc cd X;have e:w5.heap[b]?=H (ar #[fj none,aJ n0,dq c0,dq s0,dq m0,bB g l (y<|bS 0 f) A,bB E 0 D d] 308 (0,0)):=by rw[<-W];exact(x.aw.block b (ag m s.size) bm).trans<|(s.block b m ao).trans k
 have bg:w5.heap[r]?=H (ar #[aJ bq,dq D,dq av,dq<|ng<|fo<|bS 0 f] 289 (0,0)):=(x.aw.block r (am aq) (λcT=>by have:=B.lt _ cT;omega)).trans aq;have hQ:(aO w5.drew (R r 0)=H (aJ bq)/\aO w5.drew (R r 1)=H (dq D)/\aO w5.drew (R r 2)=H (dq av)/\aO w5.drew (R r 3)=H (dq<|ng<|fo<|bS 0 f)):=by simp only[bY];refine⟨?_,?_,?_,?_⟩<;>(rw[bL bg];rfl)
 obtain⟨bx,dd,br,bT,bu,eF⟩:=jX e bg x cu co B;clear bg x cu co B k hd hS bb cj t6 hg hn bk hT al an ej q N bd cp bo ac cm ad hP;obtain⟨cx,cB,cE,cM⟩:=hQ;simp only[bY]at cx cB cE cM;have dn:=cellAt e 0 rfl;have ds:=cellAt e 1 rfl;have dv:=cellAt e 2 rfl;have dx:=cellAt e 3 rfl;have dT:=cellAt e 4 rfl;have ea:=cellAt e 6 rfl;have eb:=dE (i:=0) e;have ec:=dE (i:=1) e;have ed:=dE (i:=2) e;have ef:=dE (i:=3) e;have eg:=dE (i:=4) e;have ei:=dE (i:=6) e;have fl:r≠b:=by omega
 have eA:b≠r:=by omega
 clear e;go_wp2_with fail
 rename_i fd dm ce;apply GL dm;(.intro bp;(go_region);all_goals exact bp);refine ce _ _ ?_;have bt:=U<|Jd dc s br bT bu bx bm ek el em W hL m;clear dn ds dv dx dT ea eb ec ed ef eg ei cx cB cE cM bx dd br bT bu s aq db dk;go_wp2;go_ret;exact⟨rfl,bt⟩
def Lf(F:M)(hu:F<18446744073709551616)(d:dL)(X:Cu (bS 0 d))(hT:Steps a)(C:Pow a)(bq:y (dG d)<=100000)(ax:¬j.aU b 1)(E:cQ a b j)(hg:dX (vw j.files) (fC F)=H (mR d)):cD bz 176 #[ay b,Fh F (y<|dG d) (y<|fo<|bS 0 d)<|ng<|fo<|bS 0 d] a λbf m=>
 ∃e i c,bf=aL (dw #[ay e,.nilIface])/\lS m e (ay b) F (y<|dG d) (y<|fo<|bS 0 d) (ng<|fo<|bS 0 d) i 0 c aD (bS 0 d)/\z (G a)<=e/\z (G a)<=i/\∃f,qI a m b j f/\f.files=j.files/\f.eJ=j.eJ/\∀O,f.aU b O->j.aU b O:=by
 have o:∀O∈bS 0 d,O.Fits:=λO hk=>(X.can O hk).fits
 have an:=X.len
 have bt:=X.ne
 have bs:y (fo<|bS 0 d)<=52004:=by
  have h1:=li o;unfold fo;rw[af,cC];omega
 have A:0<y (fo<|bS 0 d):=by unfold fo;rw[af,cC];omega
 have av:=zC d 0
 have br:y (mR d)=y (dG d)+y (fo<|bS 0 d):=by unfold mR;rw[af]
 have hcut:((mR d).drop<|y<|dG d).take (y<|fo<|bS 0 d)=fo (bS 0 d):=by unfold mR;simp
 obtain⟨cc,hF,u⟩:=ju hg
 obtain⟨P,hD⟩:∃P,y (dG d)=P:=⟨_,rfl⟩
 obtain⟨L,K⟩:∃L,y (fo<|bS 0 d)=L:=⟨_,rfl⟩
 obtain⟨bd,hc⟩:∃bd,ng (fo<|bS 0 d)=bd:=⟨_,rfl⟩
 have e1:IntKind.i64.wrap (P:Z)=P:=by rw[bw];omega
 have e2:IntKind.i64.wrap (L:Z)=L:=by rw[bw];omega
 have bn:=U (show∀g,I az a g->cD bz 179 #[ay b,aj<|fC F,ap P,ap L] g λbf m=>∃s t,bf=aL (dw #[bB s 0 L t,.nilIface])/\eP m (z<|G g) (bB s 0 L t) (fo<|bS 0 d)/\I (j.aU b) g m/\∃f,qI a m b j f/\f.files=j.files/\f.eJ=j.eJ/\∀O,f.aU b O->j.aU b O from by
  intro g r;have ad:=E.aw r (λ_ _=>id);refine(BK (fC F) cc P L ad hF (by rw[u];omega) (by rw[u];omega) (by omega)).mono ?_;rintro bf m⟨v',rfl,N,f,n,h1,h2,h3,_⟩;rw[u,<-hD,<-K,hcut]at N;obtain⟨s,t,rfl,a1,a2,_⟩:=uE N A;rw[K]at N|-;exact⟨s,t,rfl,N,n.aw,f,⟨n.ok,(r.mono (T:=j.aU b) cO).trans n.aw (λ_ h=>.inl h),λO hk=>.inl (h3 O hk)⟩,h1,h2,h3⟩)
 have bo:=U (show∀w s t g(f:DK),qI a w b j f->eP w g (bB s 0 L t) (fo<|bS 0 d)->cD bz 239 #[bB s 0 L t,dW #[aJ F,dq P,dq L,dq bd]] w λbf m=>
  ∃i c,bf=aL (dw #[bB i 0 (y<|bS 0 d) c,aK bU])/\z (G w)<=i/\lS (cF m<|ar #[ay b,aJ F,dq P,dq L,dq bd,bB i 0 (y<|bS 0 d) c,aD] 308) (z<|G m) (ay b) F P L bd i 0 c aD (bS 0 d)/\I az w m from by
   intro w s t g f n N;have ba:Steps w:=λO hk=>n.aw.cell (hT O hk) ax hT.lt;have ad:=eP.bytes N;rw[<-K]at ad;have v:=Ee s 0 t F ba X ad;rw[av,hD,K,hc]at v;apply v.mono;rintro bf m⟨v',rfl,aq,bv⟩;obtain⟨i,c,rfl,a1,a2,a3⟩:=uE aq (by omega);refine⟨i,c,rfl,a1,⟨aB _ rfl,?_,by omega,a3,by omega⟩,bv⟩;intro ce ch hj;obtain⟨h1,⟨h2,h0⟩|⟨b',ca,bx,h2,_,cb⟩⟩:=da<|aN aq<|ar #[ay b,aJ F,dq P,dq L,dq bd,bB i 0 (y<|bS 0 d) c,aD] 308
   .omega
   grind)
 have bT:∀(x:Bool)(a:Y),(Op.unary .not<|aK x).run bz a=.ok (aK<|!x) a:=λ_ _=>rfl
 have HPow:=U C
 have bh:=U E
 unfold Fh
 rw[hD,K,hc]
 clear X hT C bq ax E hg o bs A av br hcut hF u hD K hc an bt
 generalize y (bS 0 d)=cd at*
 go_in
 go_wp2_with fail
 apply(By F hu<|HPow.aw (cK az a) id).mono
 rintro bf w2⟨rfl,D⟩
 have p:w2.heap[z<|G a]?=H (ar #[aJ F,dq P,dq L,dq bd] 289 (0,0)):=(D.block _<|by simp).trans<|aB _ rfl
 have r:I az a w2:=(cK az a).cr<|I.aR (S:=az) D
 have c0:=cellAt p 0 rfl
 have c1:=cellAt p 1 rfl
 have c2:=cellAt p 2 rfl
 have bu:=bn w2 r
 have Q:=U p
 clear p r D
 go_wp2_with fail
 apply bu.mono
 rintro bf w⟨s,t,rfl,au,bb,K3,e,al,B,x⟩
 have ao:¬j.aU b (z<|G a):=λbd=>by have:=bh.lt _ bd;omega
 have k:=(bb.block _ (am Q) ao).trans Q
 have d0:=cellAt k 0 rfl
 have d1:=cellAt k 1 rfl
 have d2:=cellAt k 2 rfl
 have d3:=cellAt k 3 rfl
 have v:=bo w s t _ K3 e au
 obtain⟨V,bg,bi,bm,bk⟩:=je k e al B x
 clear k e al B x au bb ao
 go_wp2_with fail
 apply v.mono
 rintro bf w4⟨i,c,rfl,bp,ac,l⟩
 have q:=(l.block _ (am V) id).trans V
 have g0:=cellAt q 0 rfl
 have g1:=cellAt q 1 rfl
 have g2:=cellAt q 2 rfl
 have g3:=cellAt q 3 rfl
 have bl:=U ac
 have W:=U l
 clear ac l q
 go_wp2
 go_ret2
 have e:=ae bg
 have bc:=e.aw.size
 have l:=W.alloc<|ar #[ay b,aJ F,dq P,dq L,dq bd,bB i 0 cd c,aD] 308
 refine⟨z<|G w4,i,c,rfl,bl,aC bc W.size,aC bc bp,K3,?_,bi,bm,bk⟩
 exact⟨e.ok.aw l<|λ_ _=>id,e.aw.cr l,e.aU⟩
structure bA where
 tb:M
 ks:mq
 cs:dL
 num:M
abbrev cf:=cw bA
variable{O:bA}
def bA.ptr(t:bA):aa:=ay t.tb
def bA.all(t:bA):cJ:=t.cs.flatten
def fg(a:mq):ab:=(a.head?.map rE.first).getD ⟨#[]⟩
def AN(h:0<y B):fS B=(B[y B-1]'(by omega)).last:=by
 unfold fS;rw[List.getLast?_eq_getElem?,aI<|by omega];rfl
def vA(h:0<y B):fg B=(B[0]'h).first:=by
 unfold fg;cases B with
 |nil=>simp at h
 |cons k r=>rfl
def NU(w:Y)(t:bA):Prop:=∃h b cut c f g d a e,lS w t.tb h b cut c f g d a e t.ks
def NU.first(n:NU a O):cD bz 124 #[O.ptr] a λm j=>m=aL (aj<|fg O.ks)/\j=a:=by
 obtain⟨l,c,cut,d,i,k,e,b,h,g⟩:=n;rw[vA g.ne];exact TG g
def NU.last(m:NU a O):cD bz 125 #[O.ptr] a λl i=>l=aL (aj<|fS O.ks)/\∃q,i=a.drewN q:=by
 obtain⟨k,c,cut,d,h,j,e,b,g,f⟩:=m;rw[AN f.ne];exact VY f
def lS.di{w w':Y}{a cut e f:Z}(h:lS w c d a cut e f g l A u B)(i:w'.heap[c]?=w.heap[c]?)(j:w'.heap[g]?=w.heap[g]?):lS w' c d a cut e f g l A u B:=⟨i.trans h.box,λm n k=>(cR (w:=w) j).trans<|h.cells m n k,h.ne,h.le,h.small⟩
def NU.of_heap{w w':Y}(n:NU w O)(m:w'.heap=w.heap):NU w' O:=by
 obtain⟨k,d,cut,e,i,j,g,b,h,l⟩:=n;exact⟨k,d,cut,e,i,j,g,b,h,l.di (by rw[m])<|by rw[m]⟩
def NU.below(m:NU a O)(j:Below (z<|G a) a f):NU f O:=by
 obtain⟨l,c,cut,d,i,k,e,b,g,h⟩:=m;exact⟨l,c,cut,d,i,k,e,b,g,h.di (j.block _ h.lt.1)<|j.block _ h.lt.2⟩
structure iS(w:Y)(v:aa)(ts:cw bA):Prop where
 row:Row w 1 v (y ts) (ts.map bA.ptr)
 lt:∀k,ct v=H k->k<z (G w)
 each:∀t∈ts,NU w t
 small:y ts<=1000000000
def iS.below{e:cw bA}(h:iS a d e)(b:Below (z<|G a) a f):iS f d e:=by
 refine⟨(I.aR (S:=az) b).row h.row<|λk c=>⟨id,h.lt k c⟩,λk c=>ag (h.lt k c) b.size,λt g=>(h.each t g).below b,h.small⟩
def Bl(a:cw bA):Prop:=a.Pairwise<|λb c=>iP (fS b.ks) (fS c.ks)=bU
def MB{k bk:M}{c:cw bA}(f:ab)(h:iS a d c)(m:ep a k d 100)(l:ep a bk (aj f) 9)(i:M)(t:i<y c):cD bz 275 #[ap i,ay k,ay bk] a λp j=>p=aL (aK<|!iP (fS c[i].ks) f)/\∃q,j=a.drewN q:=by
 obtain⟨g,⟨_,B⟩|⟨w,e,o,rfl,_,r⟩⟩:=h.row;omega;have u:aO a (R w<|e+i)=H c[i].ptr:=by simp_all
 have b:∀W,W.heap=a.heap->cD bz 125 #[c[i].ptr] W λp j=>p=aL (aj<|fS c[i].ks)/\∃q,j=W.drewN q:=λW e=>((h.each _<|ak t).of_heap e).last;have c1:=m.cell;have c2:=l.cell;have s:=Ke;have v:=h.small;have x:(i:Z)<(y c:Z):=by omega
 have A:(0:Z)<=(i:Z):=by omega
 unfold iP;unfold bA.ptr at u b;generalize fS c[i].ks=C at*;generalize c[i].tb=n at*;clear h m l g r;go_in
 go_wp2_with fail
 go_quiet(first|(go_at_call 125;refine Calls.quiet_of (b _ rfl)))
 go_wp2;go_ret;exact⟨rfl,nq,rfl⟩
variable{i o r s:cf}
def tP.A9(h:tP B k):0<y B:=by rw[h.len];exact h.ne
def tP.vt(h:tP B k):∃x∈k.flatten,x.key=fS B:=by
 have b:=h.A9;have a:y B-1<y k:=by have:=h.len;omega
 have o:=h.EQ (y B-1) (by omega) a;have n:=o.ne;exact⟨_,bE.2 ⟨_,ak a,ak<|show y k[y B-1]-1<y k[y B-1]by omega⟩,by rw[AN b,o.last]⟩
def tP.Cb(h:tP B k):∃x∈k.flatten,x.key=fg B:=by
 have b:=h.A9;have a:0<y k:=by have:=h.len;omega
 have o:=h.EQ 0 (by omega) a;exact⟨_,bE.2 ⟨_,ak a,ak o.ne⟩,by rw[vA b,o.first]⟩
def tP.DH(h:tP B k)(f:w∈k.flatten):iP (fS B) w.key=aY:=by
 have e:=h.A9;have b:y B-1<y k:=by have:=h.len;omega
 have o:=h.EQ (y B-1) (by omega) b;obtain⟨j,c,a⟩:=bE.1 f;obtain⟨i,d,rfl⟩:=dO c;rw[AN e,o.last];rcases gU i (y B-1)with g|g;exact ld<|cN.1 h.Dz i _ d b g w a _<|ak (by have:=o.ne;omega);(have:i=y B-1:=by have:=h.len;omega);subst this;exact dM.DG (h.mh.sub<|cS<|ak b) o.ne a
def tP.xY(h:tP B k)(g:w∈k.flatten):iP w.key (fg B)=aY:=by
 have f:=h.A9;have b:0<y k:=by have:=h.len;omega
 have o:=h.EQ 0 (by omega) b;obtain⟨j,c,a⟩:=bE.1 g;obtain⟨i,e,rfl⟩:=dO c;rw[vA f,o.first];rcases gB i with d|d;subst d;exact dM.xY (h.mh.sub<|cS<|ak b) o.ne a;exact ld<|cN.1 h.Dz 0 i b e d _ (ak o.ne) w a
def cg(a:cf):cJ:=(a.map bA.all).flatten
def yS(t:bA)(a:cf):cg (t::a)=t.all++cg a:=by simp[cg]
theorem fK(a b:cf):cg (a++b)=cg a++cg b:=by simp[cg]
theorem mM:w∈cg i↔∃t∈i,w∈t.all:=by
 unfold cg;grind
structure kp(ts:cf):Prop where
 pure:∀t∈ts,tP t.ks t.cs
 mh:dM (cg ts)
 Dz:(ts.map bA.all).Pairwise gX
def kp.pair(j:kp i)(e:b<y i)(f:c<y i)(d:b<c){a:E}(g:w∈i[b].all)(h:a∈i[c].all):iP w.key a.key=bU:=by
 exact cN.1 j.Dz b c (by simpa using e) (by simpa using f) d w (by simpa using g) a<|by simpa using h
def kp.AM(h:kp i):Bl i:=by
 refine cN.2<|λk l b c a=>?_;obtain⟨x,f,d⟩:=(h.pure _<|ak b).vt;obtain⟨j,g,e⟩:=(h.pure _<|ak c).vt;rw[<-d,<-e];exact h.pair b c a f g
def kp.each(h:kp i)(a:O∈i):dM O.all:=h.mh.sub<|cS<|bW.2 ⟨O,a,rfl⟩
structure qA(ts:cf)(key:ab)(k:M):Prop where
 le:k<=y ts
 low:∀i(hi:i<y ts),i<k->iP (fS ts[i].ks) key=bU
 vz:∀i(hi:i<y ts),k<=i->iP (fS ts[i].ks) key=aY
def kp.BZ(o:kp i)(c:ab)(k:qA i c b):(((i.drop b).map bA.all).map<|fT c).flatten=fT c (cg i):=by
 have e:cg i=cg (i.take b)++cg (i.drop b):=by rw[<-fK,bN]
 have f:fT c (cg<|i.take b)=[]:=by unfold fT;rw[gV];intro x m;obtain⟨t,l,d⟩:=mM.1 m;obtain⟨n,p,rfl⟩:=dO l;rw[lC]at d;(have a:n<b/\n<y i:=by grind);have h:=k.low n a.2 a.1;have j:=(o.pure _<|ak a.2).DH d;rw[xQ j h];simp
 have g:∀l:dL,(l.map<|fT c).flatten=fT c l.flatten:=by
  intro l;induction l with
  |nil=>rfl
  |cons d r a=>simp only[bZ,bG,a];unfold fT;rw[lf]
 rw[g,e];unfold fT at*;rw[lf,f,cU];rfl
def kp.AV(l:kp i)(g:qA i W b)(x:E)(n:x∈cg i)(c:x.key=W):∃r:b<y i,x∈i[b].all:=by
 obtain⟨t,h,d⟩:=mM.1 n;obtain⟨q,f,rfl⟩:=dO h;have e:=(l.pure _ h).DH d;rcases lB q b with j|j|j;have:=xQ e<|g.low q f j;rw[c,fy]at this;cases this;grind
 (have a:b<y i:=by omega);obtain⟨p,o,k⟩:=(l.pure _<|ak a).vt;have m:=g.vz b a<|ai _;have:=l.pair a f j o d;rw[k,c,m]at this;cases this
def kp.yN(h:kp i)(b:qA i W (y i))(d:Z):iI d (cg i) W=none:=by
 refine rD<|λx c a=>?_;obtain⟨e,_⟩:=h.AV b x c a;omega
def kp.Cc(h:kp o)(e:qA o W b)(d:b<y o)(c:Z):iI c (cg o) W=iI c o[b].all W:=by
 have:=AW (cs:=o.map bA.all) (k:=W) (i:=b) (by simpa using d) (λx f a=>by obtain⟨_,g⟩:=h.AV e x f a;grind) h.Dz c;unfold cg;grind
def zN(b:ab)(h:iS a d i)(S:Bl i):cD bz 249 #[d,aj b] a λO X=>∃n:M,O=aL (ap n)/\qA i b n/\Below (z<|G a) a X:=by
 have D:Below (z<|G a) a (cF (cF a<|ar #[d] 100)<|ar #[aj b] 9):=((Below.refl _ a).alloc (ai _) _).alloc (by simp) _;have Q:=h.below D;have K:=h.small
 have v:=zD (f:=275) #[ay<|z<|G a,ay<|z (G a)+1] (y i) (λg=>if c:g<y i then !iP (fS i[g].ks) b else bU) (cF (cF a<|ar #[d] 100)<|ar #[aj b] 9) (enters_of func275 (by kernel_rfl) rfl) (by omega) (by
  intro ad T C u V;have t:ad<y i:=by omega
  simp only[u,t,zY]at V|-;rcases mV C with al|al
  .have l:=cN.1 S ad T t u al;grind[kZ]
  grind)
  (by
   intro g c ac l;have B:=Q.below l;have E:ep ac (z (G a)) d 100:=(l.block _ (by simp;omega)).trans (ep.alloc (aB _ rfl) _);have F:ep ac (z (G a)+1) (aj b) 9:=(l.block _ (by simp)).trans (aB _ (by simp));apply(MB b B E F g c).mono;rintro O W'⟨rfl,q,rfl⟩;simp only[c,zY];exact⟨trivial,below_drewN (Below.refl _ _) _⟩)
 have o:=U v;have w:=U D;have W:=h.row.2;clear v Q D h S;have L:(d=aD/\y i=0)\/∃T e p,d=bB T e (y i) p:=by grind
 clear W;have k:∀(O:Ending)(N:Y)(n:M),n<=y i->(∀g,g<n->(if c:g<y i then !iP (fS i[g].ks) b else bU)=aY)->(∀g,n<=g->g<y i->(if c:g<y i then !iP (fS i[g].ks) b else bU)=bU)->qA i b n:=by intro O N n j m r;refine⟨j,λg c l=>?_,λg c l=>?_⟩;(have:=m g l;grind);grind
 rcases L with⟨rfl,P⟩|⟨T,e,p,rfl⟩;(.obtain rfl:i=[]:=aP P;clear k P K;(go_in);(go_wp2_with(go_at_call 250;refine o.mono ?_;rintro O N⟨n,rfl,j,m,r,s⟩;have x:=U j;have A:=U s;clear j m r s));go_ret;have j:=ae x;refine⟨n,rfl,⟨j,λg c=>absurd c<|ft g,λg c=>absurd c<|ft g⟩,w.trans<|A.mono w.size⟩);(go_in);(go_wp2_with(go_at_call 250;refine o.mono ?_;rintro O N⟨n,rfl,j,m,r,s⟩;have x:=U j;have l:=U m;have t:=U r;have A:=U s;clear j m r s));go_ret;exact⟨n,rfl,k (aL .nilIface) a n x l t,w.trans<|A.mono w.size⟩
structure sf(V:iY)(n0:M)(v:aa)(ts:cf)(w:Y):Prop where
 row:Row w 1 v (y ts) (ts.map bA.ptr)
 loc:∀k,ct v=H k->k<n0/\¬V.F k
 each:∀t∈ts,nF V n0 t.tb t.ks t.cs w
 side:kp ts
 small:y ts<=1000000000
def nF.UG(l:nF t b O.tb O.ks O.cs a):NU a O:=by
 obtain⟨j,d,cut,e,h,i,f,c,g,k,_⟩:=l.mem;exact⟨j,d,cut,e,h,i,f,c,g,k⟩
def sf.mem(h:sf t c d i a)(f:c<=z (G a)):iS a d i:=⟨h.row,λk e=>ag (h.loc k e).1 f,λj g=>(h.each j g).UG,h.small⟩
def Row.same{V:iY}{n0:M}{S:fA}(p:Row a b d c x)(l:jF V n0 S a f)(m:∀n,ct d=H n->n<n0/\¬V.F n):Row f b d c x:=by
 obtain⟨j,h⟩:=p;refine⟨j,?_⟩;rcases h with h|⟨o,e,g,rfl,i,k⟩;exact .inl h;exact .inr ⟨o,e,g,rfl,i,λj u h=>l.cell (.inr<|m o rfl)<|k j u h⟩
def sf.same{V:iY}{n0:M}(h:sf V n0 d i a)(b:jF V n0 az a f):sf V n0 d i f:=⟨h.row.same b h.loc,h.loc,λt c=>(h.each t c).same b,h.side,h.small⟩
def sf.cell{V:iY}{j b c d n:M}(k:sf V j (bB b c n d) o a){i:M}(m:i<y o):aO a (R b<|c+i)=H o[i].ptr:=by
 obtain⟨_,⟨g,_⟩|⟨b',h,e,g,_,l⟩⟩:=k.row;cases g;grind
def sf.shape(h:sf t b d o a):(d=aD/\o=[])\/∃f c e,d=bB f c (y o) e:=by
 rcases h.row.2 with⟨g,j⟩|⟨f,c,e,g,_⟩;grind
 grind
theorem MN(k:M)(n:ab)(h:sf t b d i a)(L:ep a c d 100)(x:ep a g (ap k) 3)(B:ep a l (aj n) 9)(P:t.D a)(s:b<=z (G a))(hF:∀k,t.F k->k<b)(hE:t.Cl)(F:b<=c)(D:b<=g)(E:b<=l)(o:M)(A:k+o<y i):cD bz 330 #[ap o,ay c,ay g,ay l] a λac f=>∃v p,ac=aL (dw #[v,.nilIface])/\jf t b v (fT n i[k+o].all) p f/\t.D f/\I t.F a f/\(∀k,p k->z (G a)<=k):=by
 rcases h.shape with⟨_,h0⟩|⟨O,e,q,rfl⟩;grind
 have c1:=L.cell;have c2:=x.cell;have c3:=B.cell;have K:=h.cell A;have S:=(h.loc O rfl);have al:=h.small;have r:cD bz 331 #[i[k+o].ptr,aj n] a.drew λac f=>∃v p,ac=aL v/\jf t b v (fT n i[k+o].all) p f/\t.D f/\I t.F a.drew f/\(∀k,p k->z (G a)<=k):=CG (n0:=b) (tbqq:=i[k+o].tb) (ks:=i[k+o].ks) (cs:=i[k+o].cs) n ((h.each _<|ak A).same ⟨ai _,λ_ _=>rfl⟩) (t.fD P (ci az a) cO) s hF hE
 have w:=U (show∀f,I t.F a.drew f->aO f (R c 0)=H (bB O e (y i) q)/\aO f (R g 0)=H (ap k)/\aO f (R O<|e+(k+o))=H i[k+o].ptr/\aO f (R l 0)=H (aj n)from by
  intro f j;have C:∀x,b<=x->¬t.F x:=λx c a=>by have:=hF x a;omega
  exact⟨j.cell c1 (C _ F) (am L),j.cell c2 (C _ D) (am x),j.cell K S.2 (ag S.1 s),j.cell c3 (C _ E) (am B)⟩)
 have hW:I t.F a a.drew:=ci _ _;generalize i[k+o]=tt at*;obtain⟨u,T⟩:∃u,k+o=u:=⟨_,rfl⟩;rw[T]at K w A;have Q:(k:Z)+(o:Z)=(u:Z):=by omega
 have e1:(u:Z)<(y i:Z):=by omega
 have e2:(0:Z)<=(u:Z):=by omega
 have e3:u<1000000000:=by omega
 have e4:IntKind.i64.wrap (u:Z)=(u:Z):=by rw[bw];omega
 have e5:wrap64 (u:Z)=(u:Z):=by unfold wrap64;omega
 unfold bA.ptr at K w r;generalize tt.all=an at*;generalize tt.tb=m at*;clear h L x B P hF T;go_in
 go_wp2_with fail
 go_region_held3(λa=>aO a (R c 0)=H (bB O e (y i) q)/\aO a (R g 0)=H (ap k)/\aO a (R O<|e+u)=H (ay m)/\aO a (R l 0)=H (aj n)) (first|assumption|go_keep) (first
  |(go_at_call 331;refine r.mono ?_;rintro ac w1⟨v1,S1,rfl,V,W,N,X⟩;have ad:=w w1 N;have R1:=U V;have R2:=U W;have R3:=U N;have R4:=U X;clear V W N X))
 go_wp2;go_ret2
 exact⟨v1,S1,rfl,R1,R2,hW.trans R3<|λ_ c=>.inl c,R4⟩
def VT(V:iY)(a:M)(v:aa)(e c d k:M)(i:cf)(h:ab)(q:V.Cl):Bi V a (((i.drop k).map bA.all).map<|fT h)where
 f:=330
 cb:=#[ay e,ay c,ay d]
 inv:=λW=>sf V a v i W/\(ep W e v 100/\ep W c (ap k) 3/\ep W d (aj h) 9)/\(a<=e/\a<=c/\a<=d)/\a<=z (G W)/\∀k,V.F k->k<a
 S:=λx=>x=e\/x=c\/x=d
 Ur:=enters_of func330 (by kernel_rfl) rfl
 call:=by
  grind[MN]
 fD:=by
  rintro W p⟨n,⟨j,l,m⟩,o,g,hF⟩b;exact⟨n.same<|b.mono cO,⟨j.same b<|.inl rfl,l.same b<|.inr<|.inl rfl,m.same b<|.inr<|.inr rfl⟩,o,aC g b.1,hF⟩
 lt:=by
  grind
def Tl{V:iY}(g:ab)(h:sf V b d i a)(hD:V.D a)(j:b<=z (G a))(hF:∀k,V.F k->k<b)(hE:V.Cl):cD bz 327 #[d,aj g] a λB o=>∃s p,B=aL s/\jf V b s (fT g<|cg i) p o/\V.D o/\I V.F a o/\(∀k,p k->z (G a)<=k):=by
 have q:Below (z<|G a) a (cF (cF a<|ar #[d] 100)<|ar #[aj g] 9):=((Below.refl _ a).alloc (ai _) _).alloc (by simp) _;have u:=zN g ((h.mem j).below q) h.side.AM;have al:=h.small;have N:=h.shape
 have W:=U (show∀(e:Y)(k:M),Below (z<|G<|cF (cF a<|ar #[d] 100)<|ar #[aj g] 9) (cF (cF a<|ar #[d] 100)<|ar #[aj g] 9) e->qA i g k->cD bz 329 #[ap ((y i-k:M):Z),.func (.func 330) #[] #[ay<|z<|G a,ay<|z<|G e,ay<|z (G a)+1]] (cF e<|ar #[ap k] 3) λB o=>∃s p,B=aL s/\jf V b s (fT g<|cg i) p o/\V.D o/\I V.F a o/\(∀k,p k->z (G a)<=k)from by
  intro e k c m;have r:=c.size;simp at r;have l:I az a (cF e<|ar #[ap k] 3):=(((I.aR (S:=az) q).cr<|I.aR (S:=az) c).alloc _);have O:ep e (z<|G a) d 100:=(c.block _ (by simp;omega)).trans<|ep.alloc (aB _ rfl) _;have P:ep e (z (G a)+1) (aj g) 9:=(c.block _<|by simp).trans (aB _<|by simp);have L:sf V b d i (cF e<|ar #[ap k] 3):=h.same<|l.same j cO cO;have f:=IK (VT V b d (z<|G a) (z<|G e) (z (G a)+1) k i g hE) (cF e<|ar #[ap k] 3) ⟨L,⟨O.alloc _,aB _ rfl,P.alloc _⟩,⟨j,by omega,by omega⟩,aC j l.size,hF⟩ (aC j l.size) hF (by simp;omega);have hl:y (((i.drop k).map bA.all).map<|fT g)=y i-k:=by simp
  rw[hl]at f;apply f.mono;rintro B o⟨s,p,rfl,hg,hb,hS⟩;rw[h.side.BZ g m]at hg;have n:=l.cr (I.aR (S:=az) hb);refine⟨s,p,rfl,hg,V.fD hD n cO,n.mono cO,λao hx=>?_⟩;have an:=l.size;rcases hS ao hx with(ac|ac|ac)|ac<;>omega)
 have X:=U (show∀e,Below (z<|G<|cF (cF a<|ar #[d] 100)<|ar #[aj g] 9) (cF (cF a<|ar #[d] 100)<|ar #[aj g] 9) e->aO e (R (z<|G a) 0)=H d/\z (G a)<z (G e)from by intro e c;have r:=c.size;simp at r;exact⟨ep.cell (t:=100)<|(c.block _ (by simp;omega)).trans<|ep.alloc (aB _ rfl) _,by omega⟩);clear h hD hF q;rcases N with⟨rfl,rfl⟩|⟨aq,Q,ad,rfl⟩;(·(go_in);(go_wp2_with fail);apply u.mono;rintro B e⟨k,rfl,m,c⟩;obtain rfl:k=0:=Nat.le_zero.1 m.le;have f:=W e 0 c m;obtain⟨y1,y2⟩:=X e c;clear m c;(go_wp2_with fail);apply f.mono;rintro B w2⟨T,K,rfl,v,w,x,A⟩;have C:=U v;have D:=U w;have E:=U x;have F:=U A;clear v w x A;go_wp2;go_ret;exact⟨T,K,rfl,C,D,E,F⟩);(go_in);(go_wp2_with fail);apply u.mono;rintro B e⟨k,rfl,m,c⟩;have L:=m.le;have f:=W e k c m;obtain⟨y1,y2⟩:=X e c;obtain⟨l,n⟩:∃l,y i-k=l:=⟨_,rfl⟩;rw[n]at f;(have O:(y i:Z)-(k:Z)=(l:Z):=by omega);(have P:l<=1000000000:=by omega);(have q6:IntKind.i64.wrap (l:Z)=(l:Z):=by rw[bw];omega);clear m c n;(go_wp2_with fail);apply f.mono;rintro B w2⟨T,K,rfl,v,w,x,A⟩;have C:=U v;have D:=U w;have E:=U x;have F:=U A;clear v w x A;go_wp2;go_ret;exact⟨T,K,rfl,C,D,E,F⟩
def Oq(h:qA i W b)(a:qA i W c):b=c:=by
 rcases lB b c with e|e|e;have f:=a.low b (by have:=a.le;omega) e;have d:=h.vz b (by have:=a.le;omega)<|ai _;rw[f]at d;cases d;exact e;have f:=h.low c (by have:=h.le;omega) e;have d:=a.vz c (by have:=h.le;omega)<|ai _;rw[f]at d;cases d
def Em:∀{f:cf},Bl f->∀b,∃k,qA f b k
 |[],_,_=>⟨0,ai _,λi a=>absurd a<|ft i,λi a=>absurd a<|ft i⟩
 |t::f,h,b=>by
  obtain⟨j,g⟩:=bC.1 h;cases e:iP (fS t.ks) b with
  |true=>
   obtain⟨k,d⟩:=Em g b;refine⟨k+1,Nat.succ_le_succ d.le,λi a c=>?_,λi a c=>?_⟩
   .cases i with
    |zero=>exact e
    |succ i=>exact d.low i (by simpa using a)<|by omega
   .cases i with
    |zero=>omega
    |succ i=>exact d.vz i (by simpa using a)<|by omega
  |false=>
   refine⟨0,bj _,λi a c=>absurd c<|ft i,λi a _=>?_⟩;grind[getElem_mem,kZ]
def Tm(l:ab)(L:Z)(h:sf t b d o a)(hD:t.D a)(n:b<=z (G a))(hF:∀F,t.F F->F<b):cD bz 326 #[d,aj l,aJ L] a λac K=>ac=aL (tv<|iI L (cg o) l)/\t.Eb K/\I t.F a K:=by
 obtain⟨F,u⟩:=Em h.side.AM l;have r:Below (z<|G a) a (cF a<|ar #[aj ⟨#[]⟩,aj ⟨#[]⟩,aK aY,aJ 0] 180):=(Below.refl _ a).alloc (ai _) _;have ao:=h.small;have D:cD bz 249 #[d,aj l] (cF a<|ar #[aj ⟨#[]⟩,aj ⟨#[]⟩,aK aY,aJ 0] 180) λac K=>ac=aL (ap F)/\Below (z<|G a) a K/\ii K (z<|G a) zE:=by apply(zN l ((h.mem n).below r) h.side.AM).mono;rintro ac K⟨j,rfl,p,e⟩;obtain rfl:F=j:=Oq u p;exact⟨rfl,r.trans<|e.mono r.size,(e.block _<|by simp).trans<|aB _ rfl⟩
 have C:∀ad,b<=ad->¬t.F ad:=λad N a=>by have:=hF ad a;omega
 obtain⟨A,P,g⟩:=dA C (λX(B:Below (z<|G a) a X)=>t.fD hD (I.aR (S:=az) B) cO)<|λX(B:Below (z<|G a) a X)=>h.same<|(I.aR (S:=az) B).same n cO cO;by_cases v:F<y o
 .rcases h.shape with⟨_,h0⟩|⟨aq,W,an,rfl⟩
  .grind
  rw[h.side.Cc u v L];have HC:=U<|λX(B:Below (z<|G a) a X)=>(g X B).cell v;have q:=U<|λX(B:Below (z<|G a) a X)=>CH (n0:=b) (tbqq:=o[F].tb) (ks:=o[F].ks) (cs:=o[F].cs) l L ((g X B).each _<|ak v) (P X B) (aC n B.size) hF;have j:∀X,Below (z<|G a) a X->cD bz 328 #[ay<|o[F].tb,aj l,aJ L] X λac K=>ac=aL (tv<|iI L o[F].all l)/\t.Eb K/\I t.F X K:=ae q;have e1:((F:Z)==(y o:Z))=aY:=by simp;omega
  have e2:(F:Z)<(y o:Z):=by omega
  have e3:(0:Z)<=(F:Z):=by omega
  clear q h u hD hF C r g;unfold bA.ptr at HC;generalize iI L o[F].all l=fe at*;generalize o[F].tb=al at*;cases fe with
  |none=>
   simp only[tv,xe]at j;have q:=U j;clear j;go_in
   go_wp2_with(first
    |(go_at_call 249;refine D.mono ?_;rintro ac x⟨rfl,f,c⟩;have hc:=HC x f;have V:=q x f;have m:=U c;have k:=U f;clear c f)
    |(go_at_call 328;refine V.mono ?_;rintro ac w2⟨rfl,s,p⟩;have e:=m.aw p (A _ n);obtain⟨z0,z1,z2,z3⟩:=e.cells;have y0:=e.free (i:=0);have y1:=e.free (i:=1);have y2:=e.free (i:=2);have y3:=e.free (i:=3);have Q:=U e;have O:=U s;have T:=U p;clear e s p))
   refine cP (fZ rfl _ _ (z<|G a) zE _ _ rfl<|Q.put zE) rfl ?_;have w:=jc w2 (z<|G a) zE;refine⟨rfl,t.AX O w (λad N=>by subst N;exact A _ n),((I.aR (S:=t.F) k).trans T<|λF u=>.inl u).trans w<|λad N=>.inr<|by omega⟩
  |some ad=>
   obtain⟨xk,xv,xd,xb⟩:=ad;simp only[tv,E.value]at j;have q:=U j;clear j;go_in
   go_wp2_with(first
    |(go_at_call 249;refine D.mono ?_;rintro ac x⟨rfl,f,c⟩;have hc:=HC x f;have V:=q x f;have m:=U c;have k:=U f;clear c f)
    |(go_at_call 328;refine V.mono ?_;rintro ac w2⟨rfl,s,p⟩;have e:=m.aw p (A _ n);obtain⟨z0,z1,z2,z3⟩:=e.cells;have y0:=e.free (i:=0);have y1:=e.free (i:=1);have y2:=e.free (i:=2);have y3:=e.free (i:=3);have Q:=U e;have O:=U s;have T:=U p;clear e s p))
   refine cP (fZ rfl _ _ (z<|G a) ⟨xk,xv,xd,xb⟩ _ _ rfl<|Q.put ⟨xk,xv,xd,xb⟩) rfl ?_;have w:=jc w2 (z<|G a) ⟨xk,xv,xd,xb⟩;refine⟨rfl,t.AX O w (λad N=>by subst N;exact A _ n),((I.aR (S:=t.F) k).trans T<|λF u=>.inl u).trans w<|λad N=>.inr<|by omega⟩
 (have p:F=y o:=by have:=u.le;omega);subst p;have e:=h.side.yN u L;rw[e];rcases h.shape with⟨rfl,rfl⟩|⟨aq,W,an,rfl⟩;(.clear h u hD hF C r e v g;(go_in);(go_wp2_with(go_at_call 249;refine D.mono ?_;rintro ac x⟨rfl,f,c⟩;obtain⟨z0,z1,z2,z3⟩:=c.cells;have y0:=c.free (i:=0);have y1:=c.free (i:=1);have y2:=c.free (i:=2);have y3:=c.free (i:=3);have m:=U c;have k:=U f;clear c f));refine cP (fZ rfl _ _ (z<|G a) zE _ _ rfl<|m.put zE) rfl ?_;have j:Below (z<|G a) a (wW x (z<|G a) zE):=k.trans ((jc x (z<|G a) zE).below k.size<|λad N=>by omega);exact⟨rfl,t.up<|P _ j,I.aR j⟩);clear h u hD hF C r e v g;(go_in);(go_wp2_with(go_at_call 249;refine D.mono ?_;rintro ac x⟨rfl,f,c⟩;obtain⟨z0,z1,z2,z3⟩:=c.cells;have y0:=c.free (i:=0);have y1:=c.free (i:=1);have y2:=c.free (i:=2);have y3:=c.free (i:=3);have m:=U c;have k:=U f;clear c f));refine cP (fZ rfl _ _ (z<|G a) zE _ _ rfl<|m.put zE) rfl ?_;have j:Below (z<|G a) a (wW x (z<|G a) zE):=k.trans ((jc x (z<|G a) zE).below k.size<|λad N=>by omega);exact⟨rfl,t.up<|P _ j,I.aR j⟩
def Ai{w:Y}(u:bA)(h:NU w u)(B:kF u.ks<=1000000000):cD bz 126 #[u.ptr] w λX S=>X=aL (ap (kF u.ks:M))/\Below (z<|G w) w S:=by
 obtain⟨W,k,cut,q,Q,r,b,i,A,f⟩:=h;obtain⟨v,a,V,num⟩:=u;simp only at B f|-;unfold bA.ptr;simp only;have C:=cellAt f.box 5 rfl;have o:=f.lt;have E:=f.small;have x:=U f.cells;clear f;go_in
 go_wp2;go_loopw [3,11] (λc i wr=>∃n:M,n<=y a/\i=ap n/\c=ap (kF (a.take n):M)/\Below (z<|G w) w wr) (λ_ i _=>y a-(intOf i).toNat)
 case atStart=>exact⟨0,bj _,rfl,rfl,Below.refl _ _⟩
 (case round=>obtain⟨n,hn,rfl,rfl,d⟩:=hrel;have D:=Ck a n;have c:=Ck a<|n+1;by_cases j:n<y a;(.have e:∀c v,c<5->(rE.cells a[n])[c]?=H v->aO wr (R r<|b+n*5+c)=H v:=λc v f g=>(d.cell (p:=(R r<|b+n*5+c)) o.2).trans (by rw[aV];exact x _ _<|(iy a n c j f).trans g);rw[ah j,Cm]at c;have g:=U (show kF (a.take<|n+1)=kF (a.take n)+a[n].count by rw[ah j,Cm]);generalize a[n]=ac at*;obtain⟨pos,t,m,first,s⟩:=ac;have K:=e 0 _ (by omega) rfl;have L:=e 1 _ (by omega) rfl;have N:=e 2 _ (by omega) rfl;have O:=e 3 _ (by omega) rfl;have P:=e 4 _ (by omega) rfl;clear e;simp only[jn]at K L N O P;simp only at c g;generalize kF (a.take n)=T at*;have l:=U d;have F:=d.size;clear d;go_wp2;go_roundw;(case rel=>exact⟨n+1,j,by go_num,by rw[ae g];go_num,l.alloc F _⟩);case measure=>simp[intOf];omega);(have e:n=y a:=by omega);subst e;rw[aX];have l:=U d;clear d;go_wp2;go_ret;exact⟨rfl,l⟩)
def iF(a:cf):M:=(a.map<|λt=>kF t.ks).sum
def Cj(a:cf)(t:bA):iF (a++[t])=iF a+kF t.ks:=by simp[iF]
def yP(a:cf)(n:M):iF (a.take n)<=iF a:=by
 have h:=bX (λl=>(l.map (λt:bA=>kF t.ks)).sum)<|bN n a;simp only[aQ,eR]at h;unfold iF;omega
def Xa(h:O∈i):kF O.ks<=iF i:=by
 induction i with
 |nil=>cases h
 |cons b r a=>
  unfold iF at*;grind
def iS.cell{b c d n:M}(j:iS a (bB b c n d) o){i:M}(l:i<y o):aO a (R b<|c+i)=H o[i].ptr:=by
 obtain⟨_,⟨g,_⟩|⟨b',h,e,g,_,k⟩⟩:=j.row;cases g;grind
def iS.shape(h:iS a d o):(d=aD/\o=[])\/∃e b c,d=bB e b (y o) c/\y o<=c:=by
 rcases h.row.2 with⟨f,g⟩|⟨e,b,c,f,g,_⟩;grind
 grind
def zQ(h:iS a d i)(C:iF i<=1000000000):cD bz 163 #[d] a λA x=>A=aL (ap (iF i:M))/\Below (z<|G a) a x:=by
 have w:=h.small;rcases h.shape with⟨rfl,rfl⟩|⟨F,o,t,rfl,_⟩;(.clear h;(go_in);go_wp2;(go_loopw [3,8] (λs p wr=>p=ap 0/\s=ap 0/\wr=a) (λ_ _ _=>0));(case atStart=>grind);(case round=>obtain⟨rfl,rfl,rfl⟩:=hrel;go_wp2;go_ret;exact⟨rfl,Below.refl _ _⟩));(.have r:=U h;clear h;(go_in);go_wp2;(go_loopw [3,8] (λs p wr=>∃n:M,n<=y i/\p=ap n/\s=ap (iF (i.take n):M)/\Below (z<|G a) a wr) (λ_ p _=>y i-(intOf p).toNat));(case atStart=>exact⟨0,bj _,rfl,rfl,Below.refl _ _⟩);(case round=>obtain⟨n,D,rfl,rfl,e⟩:=hrel;have u:=yP i n;have g:=yP i<|n+1;by_cases c:n<y i;(.have b:=r.below e;have v:=b.cell c;rw[ah c,Cj]at g;have m:=U (show iF (i.take<|n+1)=iF (i.take n)+kF i[n].ks by rw[ah c,Cj]);have j:=Ai (w:=wr) i[n] (b.each _<|ak c) (by have:=Xa<|ak c;omega);clear b;unfold bA.ptr at v j;generalize kF i[n].ks=K at*;generalize i[n].tb=q at*;generalize iF (i.take n)=B at*;have k:=U e;clear e;(go_wp2_with fail);apply j.mono;rintro A E⟨rfl,f⟩;have l:=U f;clear f;go_wp2;go_roundw;(case rel=>exact⟨n+1,c,by go_num,by rw[ae m];go_num,k.trans<|l.mono k.size⟩);case measure=>simp[intOf];omega);(have b:n=y i:=by omega);subst b;rw[aX];have k:=U e;clear e;go_wp2;go_ret;exact⟨rfl,k⟩))
section
open Shelf
attribute [local go_sem] Oper.semAt_some
def oz(v:aa):M->dL->iC
 |_,[]=>[]
 |n,p::a=>zA v n (y p)::oz v (n+y p) a
def GD(v:aa):∀(n:M)(a:dL),y (oz v n a)=y a
 |_,[]=>rfl
 |n,p::a=>by rw[oz,aS,aS,GD]
def CO(v:aa)(p:cJ):∀(n:M)(a:dL),oz v n (a++[p])=oz v n a++[zA v (n+y a.flatten)<|y p]
 |_,[]=>by simp[oz]
 |n,q::a=>by
  rw[cL,oz,CO,oz,cL,bG,af,aV]
structure DA(W:Y)(base N1:M)(v pv:aa)(ps:dL)(t:M):Prop where
 p:ep W N1 pv 347
 f:ep W (N1+1) (ap<|y ps.flatten) 3
 to:ep W (N1+2) (ap t) 3
 o:W.ownsRow base 97 1 pv (y ps) (oz v 0 ps)
 ZZ:∀k,ct pv=H k->k<N1\/N1+4<=k
 size:N1+4<=z (G W)
 bs:base<=N1
def KB(a:M)(b:aa)(k:M):Prop:=(a<=k/\k<a+3)\/ct b=H k
def DA.aw{T:fA}(j:DA a c g d u k l)(e:I T a C)(h:∀m,KB g u m->¬T m):DA C c g d u k l:=⟨j.p.aw e<|h _<|.inl ⟨by omega,by omega⟩,j.f.aw e<|h _<|.inl ⟨by omega,by omega⟩,j.to.aw e<|h _<|.inl ⟨by omega,by omega⟩,e.own j.o<|λm n=>h m<|.inr n,j.ZZ,aC j.size e.size,j.bs⟩
def DA.at(h:DA a c g d u k l)(n:M):DA (cA a (R (g+2) 0)<|ap n) c g d u k n:=⟨h.p.other _ (by omega),h.f.other _ (by omega),h.to.set _,(rH a _ 0 _).own h.o (λj e m=>by have:=h.ZZ j e;omega),h.ZZ,by rw[gM];exact h.size,h.bs⟩
def DA.more{p:cJ}(r:DA a b c d u k g)(t:eL a f u N)(B:g=y k.flatten+y p)(w:f.ownsRow b 97 1 N (y k+1) (oz d 0 k++[zA d (y k.flatten)<|y p])):(aO f (R c 0)=H u/\f.frozen? (R c 0)=aY)/\(aO (cA f (R c 0) N) (R (c+1) 0)=H (ap<|y k.flatten)/\(cA f (R c 0) N).frozen? (R (c+1) 0)=aY)/\aO (cA f (R c 0) N) (R (c+2) 0)=H (ap g)/\DA (cA (cA f (R c 0) N) (R (c+1) 0)<|ap g) b c d N (k++[p]) g/\I (KB c u) a (cA (cA f (R c 0) N) (R (c+1) 0)<|ap g)/\∀l,KB c N l->KB c u l\/z (G a)<=l:=by
 have e:=I.eT t;have C:=r.size;have h:∀x,c<=x->x<c+3->¬(ct u=H x):=λx e g m=>by have:=r.ZZ x m;omega
 have n:=r.p.aw e (h _ (by omega)<|by omega);have o:=(r.f.aw e<|h _ (by omega)<|by omega).other (b':=c) (i:=0) N (by omega);have v:=(r.to.aw e<|h _ (by omega)<|by omega).other (b':=c) (i:=0) N (by omega);have j:∀l,ct N=H l->l<c\/c+4<=l:=by intro l s;rcases t.ur with m|⟨x,m,A⟩;exact r.ZZ l<|m▸s;grind
 refine⟨⟨n.cell,n.free⟩,⟨o.cell,o.free⟩,v.cell,⟨(n.set N).other _ (by omega),?_,v.other _ (by omega),?_,j,?_,r.bs⟩,?_,?_⟩;have:=o.set<|ap g;rw[B]at this|-;rw[dB,af];grind
 rw[af,CO,dp];refine(rH _ _ 0 _).own ((rH _ _ 0 _).own w ?_) ?_;(grind);grind
 rw[gM,gM];have:=e.size;omega;exact((e.mono (T:=KB c u)<|λl s=>.inl<|.inr s).setCell _ 0 _<|.inl<|.inl ⟨by omega,by omega⟩).setCell _ 0 _<|.inl<|.inl ⟨by omega,by omega⟩;rintro l(m|m);exact .inl<|.inl m;rcases t.ur with q|⟨x,q,A⟩;exact .inl<|.inr<|q▸m;grind
structure Dq(w:Y)(N1:M)(v:aa)(n L:M)(pre:cw (M×cJ))(B:fA)(W:Y):Prop where
 ex:∃ps cur pv,DA W (z (G w)+2) N1 v pv ps (y<|ig pre)/\ig pre=ps.flatten++cur/\(∀rest,kL n L 0 0 [] (pre.map (·.2)++rest)=ps++kL n L (y ps) (y<|ig pre) cur rest)/\∀k,B k↔KB N1 pv k
 l:ep W (z<|G w) v 97
 n:ep W (z (G w)+1) (ap n) 3
 aw:I az w W
def Dq.lt{h:cw (M×cJ)}(o:Dq a c d g l h X C):∀k,X k->z (G a)+2<=k/\k<z (G C):=by
 obtain⟨p,i,q,e,_,_,j⟩:=o.ex;intro k m;have:=e.bs;have:=e.size;rcases(j k).1 m with n|n;grind
 have:=aG e.o k n;grind
def Dq.stays{e:cw (M×cJ)}{T:fA}(p:Dq a b d c g e X f)(i:I T f C)(h:∀k,T k->¬X k/\b+3<=k):Dq a b d c g e X C:=by
 obtain⟨s,j,t,o,q,r,n⟩:=p.ex;have:=o.bs;exact⟨⟨s,j,t,o.aw i<|λk l m=>(h k m).1<|(n k).2 l,q,r,n⟩,p.l.aw i (λm=>by have:=(h _ m).2;omega),p.n.aw i (λm=>by have:=(h _ m).2;omega),p.aw.trans i<|λk l=>.inr (by have:=(h k l).2;omega)⟩
def Ot{gg:cJ}{d:dL}(h:∀a,kL b c 0 0 [] (k++a)=d++kL b c (y d) g e a):((y d+1)*c/b<=g+y gg->∀a,kL b c 0 0 [] (k++[gg]++a)=(d++[e++gg])++kL b c (y<|d++[e++gg]) (g+y gg) [] a)/\(¬(y d+1)*c/b<=g+y gg->∀a,kL b c 0 0 [] (k++[gg]++a)=d++kL b c (y d) (g+y gg) (e++gg) a):=by
 constructor;intro f a;rw[bD,h,cL,cU,pA,dz f];simp;intro f a;rw[bD,h,cL,cU,pA,dr f]
def Wm:(prog.info? 97).map (λi=>(i.zero,i.size,i.bytes))=H (H aD,1,24):=by kernel_rfl
def RS(h:kr a d e)(hs:dM e)(hl:y e<=1000000)(v:∀k,ct d=H k->k<z (G a)):cD bz 225 #[d] a λet w'=>∃v',et=aL v'/\w'.ownsRow (z<|G a) 97 1 v' (y<|gR e) (oz d 0<|gR e)/\I az a w':=by
 obtain⟨i0,co,db,dc,dd⟩:=cH Wm;obtain⟨bq,n,cT⟩:=bM h;have el:=AP d bq (y e) n cT;obtain⟨N,hN⟩:∃N,uG (y e)=N:=⟨_,rfl⟩;have ey:N<=10418:=by unfold uG at hN;omega
 have ce:0<y e->0<N:=by unfold uG at hN;omega
 have e1:Int.tdiv ((y e:Z)+96-1) 96=(N:Z):=by(have:((y e:Z)+96-1)=((y e+95:M):Z):=by omega);rw[this,<-hN];unfold uG;grind
 unfold gR;rw[hN];obtain⟨HN,ea,HH,HV⟩:=gH hN ce h v;clear h v hN ce;subst cT;refine(dh (n:=3)).1 ?_;refine callsIn_of_wp_marks func225 rfl trivial ?_ rfl;simp only[ntmps225,eU,aS,dH,Nat.reduceAdd,Nat.reduceSub,dR,dQ,eV,eD,cU,cL]
 gi_wp2_with(first
  |(gi_at_make;go_loud(refine wpListIn_make_own _ rfl _ _ 347 rfl (z (G a)+2) 97 i0 aD 1 underlying347 co db dc _ _ _ N rfl rfl (by omega) (by rw[dd];omega) (by unfold maxLen;omega) (by simp) ?_;intro g cv x;have W:ep g (z<|G a) (.slice bq (y e) n) 97:=(x.block _ (by simp<;>omega)<|by simp).trans<|ep.alloc (aB _ rfl) _;have X:ep g (z (G a)+1) (.int .i64 N) 3:=(x.block _ (by simp<;>omega)<|by simp).trans (aB _<|by simp);have y0:=W.cell;have y1:=X.cell;have y2:=am W;have y3:=am X;have y4:z (G a)<z (G g)+1:=(by omega);have y5:z (G a)<z (G g)+1+1:=(by omega);have dn:=U W;have ds:=U X;have bd:Hid (g.ownsRow (z (G a)+2) 97 1 (bB (z (G a)+1+1) 0 0 N) 0 []):=U (by simp_all);have dx:=U x;clear cv x W X))
  |(refine⟨trivial,?_⟩;gi_at_call 91;refine(dh.2 (el _)).mono ?_;rintro et w1⟨rfl,rfl⟩))
 obtain⟨W0,u⟩:∃W0,(cF (cF (cF (cF g<|ar #[bB (z (G a)+1+1) 0 0 N] 347)<|ar #[ap 0] 3)<|ar #[ap 0] 3)<|ar #[J bq (y e) n] 97)=W0:=⟨_,rfl⟩;have fl:z (G W0)=z (G g)+4:=by rw[<-u];simp
 have eo:I az a g:=(((I.refl az a).alloc<|ar #[J bq (y e) n] 97).alloc<|ar #[ap N] 3).cr (I.dJ (S:=az) dx<|by simp);have A:I az g W0:=by rw[<-u];exact(((cK az g).alloc _).alloc _).alloc _
 have cB:I az a W0:=eo.cr A;have ej:ep W0 (z (G g)+3) (J bq (y e) n) 97:=by rw[<-u];exact aB _<|by simp
 have bT:kr W0 (J bq (y e) n) e:=HH.aw cB<|λk b=>⟨id,HV k b⟩;have hA0:Dq a (z<|G g) (J bq (y e) n) N (y e) [] (KB (z<|G g)<|bB (z (G a)+1+1) 0 0 N) W0:=by refine⟨⟨[],[],_,⟨?_,?_,?_,?_,?_,by omega,by omega⟩,rfl,λP=>rfl,λk=>rA⟩,dn.aw A id,ds.aw A id,cB⟩;rw[<-u];grind[ep.alloc,aB];rw[<-u];exact ep.alloc (ep.alloc (aB _<|by simp) _) _;rw[<-u];exact ep.alloc (aB _<|by simp) _;exact A.own bd<|λ_ _ n=>n;intro k b;have:=(bd.lt k b).2;grind
 clear y0 y1 y4 y5;rw[u];refine nQ (m:=3) (arg:=GP<|J bq (y e) n) (V:=AY) (n0:=z<|G a) (gf:=153) (lb:=#[ay<|z (G g)+3]) (l:=nU 0<|ic e) (S:=λk=>k=z (G g)+3) ?geval (enters_of func153 (by kernel_rfl) rfl) (λ_=>rfl) (ww (z<|G a) 2 ej bT HV (by omega)<|by omega) trivial (by omega) (λk b=>by omega) (λj ax bx=>Dq a (z<|G g) (J bq (y e) n) N (y e) j ax bx) (λ_ _ _ _=>False) _ hA0 (λk b n=>by rcases n with⟨_,n⟩|n;omega;have:=(bd.lt k n).2;omega) (λj ax bx E k b=>⟨by have:=(E.lt k b).1;omega,(E.lt k b).2⟩) ?st (λ_ _ _ _ _ _ h=>h.elim) ?body ?done ?stop;case geval=>rfl
 (case st=>intro j ax bx f T E ht c;refine E.stays ht<|λk b=>⟨(c k b).1,?_⟩;rcases(c k b).2 with n|n|n;omega;exact n.elim;omega);(case stop=>grind)
 case body=>
  rintro lr j⟨ba,o⟩ax bx fd eg cs L E _;obtain⟨hn,fr,b⟩:=JT hs L;have eB:0<y o:=gJ.2 b.ne;have fb:ba+y o+y fr=y e:=by rw[b.all,hn];simp;omega
  obtain⟨dk,c,ex,hx,eF⟩:=bT.some (by omega);cases hx;have ek:∀q∈j.map (·.2),q≠[]:=by
   obtain⟨_,bb,et⟩:=yL _ _ _ _ _ L;exactλq hq=>DJ e q (by rw[<-et];simp[hq])
  unfold GP zA;simp only;have K:=hn.symm;have HA:=U E;clear E L b hn;gi_wp2;refine⟨I.refl _ _,λT bn=>?_⟩;have hA2:=HA.stays bn (λk b=>by grind);obtain⟨l,D,pv,v,hcut,s,hB⟩:=hA2.ex;rw[K]at v s;have fe:y l<=ba:=by
   have h1:=s [];rw[ee]at h1;have h2:l=kL N (y e) 0 0 [] (j.map (·.2)):=by rw[h1];simp[kL]
   have h3:=CY (ps:=l) (by rw[h2];exact Ll _ _ _ _ ek);have h4:=bX y hcut;rw[K,af]at h4;omega
  have cm:y l.flatten+y D=ba:=by rw[<-K,hcut,af]
  obtain⟨px,pc,bl⟩:=aA v.o;have z0:=v.to.cell;have z1:=v.to.free;have cM:=v.at (ba+y o);have ad:I ax T (cA T (R (z (G g)+2) 0)<|ap ((ba+y o:M):Z)):=(I.refl ax T).setCell _ 0 _<|.inl<|(hB _).2<|.inl ⟨by omega,by omega⟩;have cp:=hA2.l.aw ad (λn=>by have:=(HA.lt _ n).1;omega);have cu:=hA2.n.aw ad (λn=>by have:=(HA.lt _ n).1;omega);obtain⟨q,hq⟩:∃q,(y l+1)*y e/N=q:=⟨_,rfl⟩;obtain⟨dm,hp⟩:∃dm,(y l+1)*y e=dm:=⟨_,rfl⟩;have ff:dm<=1000001*1000000:=by rw[<-hp];exact Nat.mul_le_mul (by omega) hl
  have a1:((y l:Z)+1)*(y e:Z)=(dm:Z):=by rw[<-hp];grind
  have a2:Int.tdiv (dm:Z) (N:Z)=(q:Z):=by rw[<-hq,hp];grind
  have ez:=ea (by omega);have bm:=Ot (gg:=o) s;rw[hq]at bm;have b1:((N:Z)==0)=aY:=by simp;omega
  have b2:IntKind.i64.wrap (dm:Z)=(dm:Z):=by rw[bw];omega
  have fk:q<=dm:=by rw[<-hq,hp];exact Nat.div_le_self _ _
  have b3:IntKind.i64.wrap (q:Z)=(q:Z):=by rw[bw];omega
  have ed:¬((N:Z)=0):=by omega
  have ef:¬(N=0):=by omega
  obtain⟨bg,HB,bf,Q,bu,an⟩:=jX cM hB ad bn bm hcut;obtain⟨br,eb,bs,bt,bc⟩:=je cm K cp cu hA2;clear cM hB ad bn bm hcut K cp cu s v hq hp hA2 cm;subst bl;gi_wp2_with fail
  rw[show z (G g)+1+1=z (G g)+2 from rfl,show z (G g)+2+1=z (G g)+3 from rfl,show((ba:Z)+(y o:Z))=((ba+y o:M):Z)by grind];generalize ei:cA T (R (z (G g)+2) 0) (ap ((ba+y o:M):Z))=W3 at*;clear ei;have s0:=bg.to.cell;have s1:=bg.p.cell;have s2:=bs.cell;have s3:=bt.cell;obtain⟨bb,O⟩:∃bb,ba+y o=bb:=⟨_,rfl⟩;rw[O]at s0|-;rename_i QQ KK cd;refine Bt (by kernel_rfl) (by kernel_rfl) (by kernel_rfl) (λfq a h=>h) ?_;repeat(quiet_step (fail))
  refine wpQuiet_nil ?_;rintro _⟨nq,rfl⟩;show KK _ _;apply cd;clear cd;have b4:IntKind.i64.wrap ((y l:Z)+1)=(y l:Z)+1:=by rw[bw];omega
  rw[b4,a1,b2,a2,b3];obtain⟨r,bh⟩:∃r,W3.drewN nq=r:=⟨_,rfl⟩;have p:I az W3 r:=by rw[<-bh];exact gD _ W3 nq
  rw[bh];have bo:=bg.aw p<|λ_ _=>id;have fn:I (λk=>ax k\/k=lr) bx r:=((Q.mono<|λk b=>.inl<|.inr b).trans bf<|λk b=>.inl<|.inl b).cr p;have ac:=bs.aw p id;have em:=bt.aw p id;have cE:I az a r:=(bc.aw.trans bf<|λk b=>.inr (by have:=(bc.lt k b).1;omega)).cr p;have av:I ax T r:=bf.cr p;have cq:lr<z (G T):=ag cs Q.size;have eA:z (G bx)<=z (G T):=Q.size;have w:=U (show∀(F:Y)(pf:aa)(f:dL)(al:cJ),DA F (z (G a)+2) (z<|G g) (bB dk c (y e) n) pf f (ba+y o)->ig j++o=f.flatten++al->(∀P,kL N (y e) 0 0 [] (j.map (·.2)++[o]++P)=f++kL N (y e) (y f) (ba+y o) al P)->I ax r F->(∀k,KB (z<|G g) pf k->ax k\/z (G r)<=k)->BM AY (λj ax bx=>Dq a (z<|G g) (bB dk c (y e) n) N (y e) j ax bx) (λ_ _ _ _=>False) (j++[(ba,o)]) ax bx T lr .normal ⟨#[],[]⟩ F fromλF pf f al h1 h2 h3 h4 h5=>by
   have e1:ig (j++[(ba,o)])=ig j++o:=tC _ _ _;have e2:y (ig<|j++[(ba,o)])=ba+y o:=by rw[e1,af,ae eb]
   have B:∀k,ax k->z (G a)+2<=k:=λk b=>(bc.lt k b).1;have t:I ax T F:=av.trans h4 (λk b=>.inl b);refine⟨trivial,KB (z (G g)) pf,⟨⟨f,al,pf,by rw[e2];exact h1,by rw[e1];exact h2,by rw[e2,aQ];exact h3,λk=>rA⟩,ac.aw h4 (λn=>by have:=B _ n;omega),em.aw h4 (λn=>by have:=B _ n;omega),cE.trans h4 (λk b=>.inr (by have:=B k b;omega))⟩,(Q.mono (λk b=>.inl (.inr b))).trans t (λk b=>.inl (.inl b)),t.block lr cq eg,λk b=>(h5 k b).imp_right (λn=>by have:=av.size;omega)⟩)
  clear bh s0 s1 s2 s3 a1 a2 b1 b2 b3 b4 ed ef z0 z1;have cn:y l.flatten<=bb/\y l.flatten<bb:=by have:=ae br;omega
  by_cases cx:q<=bb
  .have en:(q:Z)<=(bb:Z):=by omega
   have F:∀f:Y,I az r f->DA f (z (G a)+2) (z<|G g) (bB dk c (y e) n) (J px (y l) pc) l bb:=λf ht=>O▸bo.aw ht (λ_ _=>id);have dv:=U F;have dT:=U ac;obtain⟨ao,hf⟩:∃ao,y l.flatten=ao:=⟨_,rfl⟩;have bv:=U (show∀f:Y,I az r f->aO f (R (z<|G g) 0)=H (J px (y l) pc)/\aO f (R (z<|G a) 0)=H (bB dk c (y e) n)/\aO f (R (z (G g)+1) 0)=H (ap (ao:Z))/\aO f (R (z (G g)+2) 0)=H (ap (bb:Z))fromλf ht=>⟨(F f ht).p.cell,(ac.aw ht id).cell,hf▸(F f ht).f.cell,(F f ht).to.cell⟩);rw[hf]at cn;have Hf:=U hf;have ch:=bv r.drew<|ci _ r;have b4:(ao:Z)<=(bb:Z):=by omega
   have b5:(bb:Z)<=(n:Z):=by omega
   have b6:¬(n-ao=0):=by omega
   have b7:(0:Z)<=(ao:Z):=by omega
   have ev:¬(n=ao):=by omega
   clear F ac hf;gi_wp2_with fail
   rename_i eu ec aq;refine tZ (λf=>aO f (R (z<|G g) 0)=H (J px (y l) pc)/\aO f (R (z<|G a) 0)=H (bB dk c (y e) n)/\aO f (R (z (G g)+1) 0)=H (ap (ao:Z))/\aO f (R (z (G g)+2) 0)=H (ap (bb:Z))) 7 (by kernel_rfl) (by kernel_rfl) (λfq a h=>h) ?_;refine cY 0 ?_;iterate 5 (refine eM (v:=?_) ch rfl (by kernel_rfl) iW rfl ?_ ?_;rotate_left;(focus(rintro f⟨z0,z1,z2,z3⟩;go_simp;try rfl));simp only[Act.put,dD,Nat.reduceAdd])
   apply eC;refine aM (i:=5) rfl rfl (by kernel_rfl) ?_;intro K5 ca;go_simp;have B:I az r (cF r<|ar #[bB dk (c+ao*4) (bb-ao)<|n-ao] 97).drew:=(cK _ r).of_heap rfl;have t:=dv _ B;have es:=t.size;refine ca _ _ (λ_=>bv _ B) ?_;try simp only[Act.put,dD]
   refine aM (i:=6) rfl rfl (by kernel_rfl) ?_;intro K6 cb;simp only[cy,bF,bQ];refine kH (.tmp 32) (.tmp 37) 347 rfl (z (G a)+2) 97 i0 aD 1 24 underlying347 co db dc dd rfl (by decide) (J px (y l) pc) (y l) (oz (bB dk c (y e) n) 0 l) rfl t.o (R (z<|G r) 0) 1 1 [bB dk (c+ao*4) (bb-ao)<|n-ao] rfl rfl (pT _ _ _) (by simp[Value.oneCell']) (by omega) (by omega) (by grind) ?_;intro v6 w6 bk bp;obtain⟨x6,c6,eq⟩:=aA bk;subst eq;obtain⟨⟨y0,y1⟩,⟨y4,y5⟩,y6,cl,ck,cj⟩:=t.more (p:=D++o) bp (by rw[af];have:=ae br;omega) (by
    have et:zA (bB dk c (y e) n) (y l.flatten) (y<|D++o)=bB dk (c+ao*4) (bb-ao) (n-ao):=by
     unfold zA;grind[ae,length_append]
    rw[et];exact bk)
   have al:=I.eT bp;have bi:∀bq,z (G g)<=bq->bq<z (G g)+3->¬(ct (J px (y l) pc)=H bq):=λbq h1 h2 q=>by have:=t.ZZ bq q;omega
   refine cb _ _ (λ_=>⟨y0,((dT.aw B id).aw al (λq=>by have:=(aG t.o _ q).1;omega)).cell,Hf▸(t.f.aw al<|bi _ (by omega)<|by omega).cell,(t.to.aw al<|bi _ (by omega)<|by omega).cell⟩) ?_;try simp only[Act.put,dD]
   have au:=w _ _ _ [] (O▸cl) (by rw[ae an];simp) (bu.1 (by rw[O];exact cx)) (((I.refl az r).cr B|>.mono cO).trans ck<|λk b=>.inl<|(HB k).2 b)<|λk b=>(cj k b).imp (λn=>(HB k).2 n) (λn=>by have:=B.size;omega);have C:=U au;rw[ae Hf]at y4;clear au cl ck cj t bk bp al bi B es w;refine aM (i:=7) rfl rfl (by kernel_rfl) ?_;intro K7 cc;go_simp;refine cc _ _ (λq=>(q rfl).elim) ?_;refine cW (by kernel_rfl) ?_ _;show ec _ _;refine aq _ _ ?_;clear aq ca cb cc ch;gi_wp2;exact C
  .have en:¬((q:Z)<=(bb:Z)):=by omega
   have C:=U<|w r _ l (D++o) bo (by rw[ae an,bD]) (bu.2 (by rw[O];exact cx)) (I.refl _ _)<|λk b=>.inl<|(HB k).2 b;clear w bo;gi_wp2;exact C
 (case done=>intro w ax bx K E p _ t;obtain⟨l,D,pv,v,hcut,s,hB⟩:=E.ex;rw[AU]at hcut v s;(have c:kL N (y e) 0 0 [] (ic e)=l:=by have:=s [];rw[BW,ee]at this;rw[this];simp[kL]);have o:=U c;obtain⟨px,pc,bl⟩:=aA v.o;have O:=v.p.cell;have r:ct pv≠H w:=λq=>p<|(hB w).2<|.inr q;obtain⟨C,B,F⟩:=dA v.o t E.aw;have L:=am t;clear E v hcut s hB t c;subst bl;gi_wp2;have f:=gG bx w<|.deferred none;refine⟨by simp,.inl ⟨_,_,rfl,run_takeDeferred B,?_⟩⟩;refine⟨_,gm rfl _ _ _,?_⟩;exact⟨_,rfl,by rw[ae o];exact er (f.own C<|λk b q=>r (by rw[<-q];exact b)) (by omega),F.trans f<|λk b=>.inr<|by grind⟩)
end
def iS.take{ts:cf}(h:iS a (bB b c (y ts) g) ts)(i:M)(m:i<=y ts):iS a (bB b c i g) (ts.take i):=by
 have j:y (ts.take i)=i:=by simp;omega
 have l:=h.shape;refine⟨⟨by simp,.inr ⟨b,c,g,by rw[j],?_,λp u d=>?_⟩⟩,λo f=>h.lt o f,λt k=>h.each t<|fJ k,by have:=h.small;omega⟩;grind
 rw[List.map_take,oX]at d;split at d;rename_i e;rw[dP,aI<|by omega]at d;cases d;exact h.cell (by omega);cases d
def iS.drop(h:iS a (bB b c (y i) g) i)(e:M)(n:e<=y i):iS a (bB b (c+e) (y i-e)<|g-e) (i.drop e):=by
 have k:y (i.drop e)=y i-e:=by simp
 have m:=h.shape;refine⟨⟨by simp,.inr ⟨b,c+e,g-e,by rw[k],?_,λo u f=>?_⟩⟩,λp j=>h.lt p (by simpa[ct]using j),λt l=>h.each t<|dK l,by have:=h.small;omega⟩;grind
 rw[List.map_drop,List.getElem?_drop]at f;(have d:e+o<y i:=by grind);rw[dP,aI d]at f;cases f;rw[aV];exact h.cell d
def iS.empty(h:iS a (bB b c l g) i)(d:M):iS a (bB b d 0 0) []:=⟨⟨rfl,.inr ⟨b,d,0,rfl,ai _,(by grind)⟩⟩,(λk e=>h.lt k<|by simpa[ct]using e),(by grind),bj _⟩
structure zr(ts:cf)(lo hi:ab)(i j:M):Prop where
 Zj:qA ts lo i
 le:i<=j
 lV:j<=y ts
 within:∀k(hk:k<y ts),i<=k->k<j->iP hi (fg ts[k].ks)=aY
 behind:∀(hj:j<y ts),iP hi (fg ts[j].ks)=bU
def MO(K r:ab)(h:iS a d i)(V:Bl i):cD bz 205 #[d,aj K,aj r] a λac L=>∃j F W X v3,ac=aL (dw #[W,X,v3])/\zr i K r j F/\iS L W (i.take j)/\iS L X ((i.drop j).take<|F-j)/\iS L v3 (i.drop F)/\(∀k,ct W=H k\/ct X=H k\/ct v3=H k->ct d=H k)/\Below (z<|G a) a L:=by
 have aq:=h.small;have C:=zN K h V;rcases h.shape with⟨rfl,rfl⟩|⟨ad,g,c,rfl,al⟩;(.clear h V;(go_in);(go_wp2_with fail);apply C.mono;rintro ac w1⟨k,rfl,e,m⟩;obtain rfl:k=0:=Nat.le_zero.1 e.le;have P:=U e;have N:=U m;clear e m;go_wp2;(go_loopw [10] (λF wr=>F=ap 0/\wr=w1) (λ_ _=>0));(case atStart=>grind);(case round=>obtain⟨rfl,f⟩:=hrel;subst wr;(go_wp2_with fail);(go_quiet(fail));go_wp2;(go_ret3);have b:iS (w1.drewN nq) aD []:=⟨⟨rfl,.inl ⟨rfl,rfl⟩⟩,(by intro k e;cases e),(by grind),bj _⟩;exact⟨0,0,_,_,_,rfl,⟨P,ai _,ai _,λk e=>absurd e<|ft k,λE=>absurd E<|kU 0⟩,b,b,b,(by simp_all),below_drewN N _⟩))
 .have HL:=U h;clear h V;have ao:=Ym;go_in
  go_wp2_with fail
  apply C.mono;rintro ac w1⟨j,rfl,e,m⟩;have v:=e.le;have P:=U e;have N:=U m;clear e m;go_wp2;go_loopw [10] (λF wr=>∃n:M,j<=n/\n<=y i/\F=ap n/\(∀k(e:k<y i),j<=k->k<n->iP r (fg i[k].ks)=aY)/\Below (z<|G a) a wr) (λF _=>y i-(intOf F).toNat)
  case atStart=>exact⟨j,ai _,v,rfl,λk _ al ad=>absurd al (by omega),N⟩
  case round=>
   obtain⟨n,T,B,rfl,hw,Q⟩:=hrel;have f:=HL.below Q;obtain⟨an,HW,l⟩:=dA f hw Q;clear hw Q;have e1:(j:Z)<=(n:Z):=by omega
   have e2:(n:Z)<=(y i:Z):=by omega
   have e3:(j:Z)<=(y i:Z):=by omega
   have e4:(n:Z)<=(c:Z):=by omega
   have e5:(j:Z)<=(c:Z):=by omega
   have e6:(y i:Z)<=(c:Z):=by omega
   have q:=U (show(∀(E:n<y i),iP r (fg i[n].ks)=bU)->zr i K r j n/\iS wr (bB ad g j c) (i.take j)/\iS wr (bB ad (g+j) (n-j)<|c-j) ((i.drop j).take<|n-j)/\iS wr (bB ad (g+n) (y i-n)<|c-n) (i.drop n)from by
    intro o;refine⟨⟨P,T,B,HW,o⟩,f.take j v,?_,f.drop n B⟩;have u:=f.drop j v;have D:=iS.take (ts:=i.drop j) (by rw[ja];exact u) (n-j) (by rw[ja];omega);exact D)
   by_cases p:n<y i
   .have hp:=f.cell p;have u:=(f.each _<|ak p).first;have e7:(n:Z)<(y i:Z):=by omega
    have e8:(0:Z)<=(n:Z):=by omega
    have o:=JO (fg i[n].ks) r;clear f;unfold bA.ptr at hp u;cases hkl:iP r (fg i[n].ks)with
    |false=>
     rw[hkl]at o;simp only[nI]at o;have HN:=U (show∀k(e:k<y i),k=n->iP r (fg i[k].ks)=aY fromλk e ac=>by grind);clear hkl;generalize fg i[n].ks=fk at*;generalize i[n].tb=D at*;go_wp2_with fail
     apply u.mono;rintro ac S⟨rfl,O⟩;subst S;go_wp2;go_roundw;case rel=>exact⟨n+1,by omega,p,by go_num,λk e al ad=>by rcases gU k n with au|au;exact HW k e al au;exact HN k e (by omega),l⟩
     case measure=>simp[intOf];omega
    |true=>
     rw[hkl]at o;simp only[uw]at o;have x:=U<|q<|λ_=>hkl;clear hkl;generalize fg i[n].ks=fk at*;generalize i[n].tb=D at*;go_wp2_with fail
     apply u.mono;rintro ac S⟨rfl,O⟩;subst S;go_wp2_with fail
     go_quiet(fail)
     go_wp2;go_ret3
     obtain⟨s,t,w,A⟩:=ae x;have b:Below (z<|G wr) wr (wr.drewN nq):=below_drewN (Below.refl _ _) _;exact⟨j,n,_,_,_,rfl,s,t.below b,w.below b,A.below b,(by intro k e;simpa[ct]using e),below_drewN l _⟩
   .have u:n=y i:=by omega
    have x:=U<|q<|λE=>absurd E p;have e7:¬(n:Z)<(y i:Z):=by omega
    have hE:=f.empty g;have O:=U hE;clear f hE;have D:=U (show i.drop n=[]by rw[u,gh]);rcases gU n c with hc|hc
    .have o:¬(c-n=0):=by omega
     have d2:¬(c-j=0):=by omega
     clear u;go_wp2_with fail
     go_quiet(fail)
     go_wp2;go_ret3
     obtain⟨s,t,w,A⟩:=ae x;have b:Below (z<|G wr) wr (wr.drewN nq):=below_drewN (Below.refl _ _) _;exact⟨j,n,_,_,_,rfl,s,t.below b,w.below b,A.below b,(by intro k e;simpa[ct]using e),below_drewN l _⟩
    .have o:c=n:=by omega
     subst o;clear u;rcases gU j c with S|S
     .have d2:¬(c-j=0):=by omega
      go_wp2_with fail
      go_quiet(fail)
      go_wp2;go_ret3
      obtain⟨s,t,w,A⟩:=ae x;have b:Below (z<|G wr) wr (wr.drewN nq):=below_drewN (Below.refl _ _) _;refine⟨j,c,_,_,_,rfl,s,t.below b,w.below b,?_,(by intro k e;simpa[ct]using e),below_drewN l _⟩;rw[ae D];exact O.below b
     .have o:j=c:=by omega
      subst o;go_wp2_with fail
      go_quiet(fail)
      go_wp2;go_ret3
      obtain⟨s,t,w,A⟩:=ae x;have b:Below (z<|G wr) wr (wr.drewN nq):=below_drewN (Below.refl _ _) _;refine⟨j,j,_,_,_,rfl,s,t.below b,?_,?_,(by intro k e;simpa[ct]using e),below_drewN l _⟩
      .rw[ae D,Ab];exact O.below b
      .rw[ae D];exact O.below b
def iS.of_heap{w w':Y}(j:iS w d i)(k:w'.heap=w.heap):iS w' d i:=by
 refine⟨?_,λq n=>by rw[k];exact j.lt q n,λt o=>(j.each t o).of_heap k,j.small⟩;obtain⟨h,g|⟨p,b,e,g,l,m⟩⟩:=j.row;exact⟨h,.inl g⟩;exact⟨h,.inr ⟨p,b,e,g,l,λn u j=>(cR (w:=w)<|by rw[k]).trans<|m n u j⟩⟩
def Xw(a:cf):Prop:=∀i(h:i+1<y a),iP (fS a[i].ks) (fg a[i+1].ks)=bU
def kp.apart(h:kp i):Xw i:=by
 intro g a;obtain⟨x,d,b⟩:=(h.pure _<|ak<|show g<y i by omega).vt;obtain⟨f,e,c⟩:=(h.pure _<|ak a).Cb;rw[<-b,<-c];exact h.pair (show g<y i by omega) a (by omega) d e
def Ul(h:iS a d i)(o:Xw i):cD bz 177 #[d] a λv g=>v=aL (aK bU)/\Below (z<|G a) a g:=by
 have F:=h.small;rcases h.shape with⟨rfl,rfl⟩|⟨W,t,C,rfl,_⟩;(.clear h o;(go_in);go_wp2;(go_loopw [6] (λx wr=>x=ap 0/\wr=a) (λ_ _=>0));(case atStart=>grind);(case round=>obtain⟨rfl,rfl⟩:=hrel;go_wp2;go_ret;exact⟨rfl,Below.refl _ _⟩))
 .have B:=U h;have A:=U o;have D:=Ke;clear h o;go_in
  go_wp2;go_loopw [6] (λx wr=>∃n:M,n<=y i/\x=ap n/\Below (z<|G a) a wr) (λx _=>y i-(intOf x).toNat)
  case atStart=>exact⟨0,bj _,rfl,Below.refl _ _⟩
  case round=>
   obtain⟨n,E,rfl,p⟩:=hrel;have b:=B.below p;have k:=U p;clear p;by_cases j:n<y i
   .rcases gB n with l|l
    .subst l;clear b;go_wp2_with fail
     go_quiet(fail)
     go_wp2;go_roundw;case rel=>exact⟨1,by omega,by go_num,below_drewN k _⟩
     case measure=>simp[intOf];omega
    .obtain⟨m,rfl⟩:∃m,n=m+1:=⟨n-1,by omega⟩;have s:=b.cell (show m<y i by omega);have f:=b.cell j;have e:∀W,W.heap=wr.heap->cD bz 125 #[i[m].ptr] W λv g=>v=aL (aj<|fS i[m].ks)/\∃q,g=W.drewN q:=λW a=>((b.each _<|ak<|show m<y i by omega).of_heap a).last;have c:∀W,W.heap=wr.heap->cD bz 124 #[i[m+1].ptr] W λv g=>v=aL (aj<|fg i[m+1].ks)/\g=W:=λW a=>((b.each _<|ak j).of_heap a).first;have r:=A m j;unfold iP at r;clear b;unfold bA.ptr at s f e c;generalize fS i[m].ks=T at*;generalize fg i[m+1].ks=V at*;generalize i[m].tb=X at*;generalize i[m+1].tb=t2 at*;obtain⟨u,w⟩:∃u,m+1=u:=⟨_,rfl⟩;rw[w]at f j l E|-;have K:(u:Z)-1=(m:Z):=by omega
     have L:(m:Z)<(y i:Z):=by omega
     have N:(u:Z)<(y i:Z):=by omega
     have O:IntKind.i64.wrap (m:Z)=(m:Z):=by rw[bw];omega
     have P:(0:Z)<(u:Z):=by omega
     have Q:(0:Z)<=(m:Z):=by omega
     have S:m<y i:=by omega
     clear w;go_wp2_with fail
     go_quiet(first
      |(go_at_call 125;refine Calls.quiet_of (e _ rfl))
      |(go_at_call 124;refine Calls.quiet_of_same (c _ rfl)))
     go_wp2;go_roundw;case rel=>exact⟨u+1,by omega,by go_num,below_drewN k _⟩
     case measure=>simp[intOf];omega
   .have c:n=y i:=by omega
    subst c;clear b;go_wp2;go_ret;exact⟨rfl,k⟩
def KA(w:Y)(d:M)(t:bA):Prop:=∃c b a,lS w t.tb (ay d) t.num (y<|dG t.cs) (y<|fo t.ks) (ng<|fo t.ks) c b a aD t.ks
def KA.UG(h:KA a b O):NU a O:=by
 obtain⟨e,d,c,f⟩:=h;exact⟨_,_,_,_,_,e,d,c,_,f⟩
def KA.below(i:KA a b O)(g:Below (z<|G a) a f):KA f b O:=by
 obtain⟨h,d,c,e⟩:=i;exact⟨h,d,c,e.di (g.block _ e.lt.1)<|g.block _ e.lt.2⟩
def bA.wq(t:bA):iC:=[aJ t.num,dq<|y<|dG t.cs,dq<|y<|fo t.ks,dq<|ng<|fo t.ks]
def dy(a:cf):iC:=a.flatMap bA.wq
def Fg(a:cf)(t:bA):dy (a++[t])=dy a++t.wq:=by simp[dy]
def MV:(prog.info? 289).map (λi=>(i.zero,i.size,i.bytes))=H (H<|dW #[aJ 0,dq 0,dq 0,dq 0],4,24):=by kernel_rfl
def yj(x c d u:aa)(t:TypeId)(e:b=z (G a)):∀j q,[x,c,d,u][j]?=H q->aO (cF a<|ar #[x,c,d,u] t) (((R b 0):Addr).add j)=H q:=by
 intro j q f;subst e;rw[du];simp_all
def PC(w:Y)(db:M)(aq:aa)(b:cf)(h:iS w aq b)(F:∀av∈b,KA w db av)(hl:y b<=100000000):cD bz 167 #[aq] w λao V=>∃T,ao=aL T/\V.ownsRow (z<|G w) 289 4 T (y b) (dy b)/\Below (z<|G w) w V:=by
 obtain⟨K,k,l,m,o⟩:=cH MV;rcases h.shape with⟨rfl,rfl⟩|⟨ax,L,ac,rfl,_⟩
 .clear h F;go_in
  go_wp2_with(first
   |(at_make;go_loud(refine jJ _ rfl _ _ 199 rfl (z (G w)) 289 K (.agg #[.int .u64 0,.int .u32 0,.int .u32 0,.int .u32 0]) 4 underlying199 k l m _ _ _ 0 rfl rfl (by omega) (by rw[o];omega) (by grind) (ai _) ?_;intro W d c;have j:=U d;have i:=U c;clear d c)))
  go_loopw [3,11] (λan P wr=>P=ap 0/\wr.ownsRow (z<|G w) 289 4 an 0 []/\wr=W) (λ_ _ _=>0)
  case atStart=>exact⟨rfl,j,rfl⟩
  case round=>
   obtain⟨rfl,s,a⟩:=hrel;subst wr;obtain⟨au,X,rfl⟩:=aA s;have p:=U s;clear s;go_wp2;go_ret;exact⟨_,rfl,p,(I.dJ (S:=az) i<|by simp).below (ai _) cO⟩
 .have HL:=U h;have HW:=U F;clear h F;go_in
  go_wp2_with(first
   |(at_make;go_loud(refine jJ _ rfl _ _ 199 rfl (z (G w)) 289 K (.agg #[.int .u64 0,.int .u32 0,.int .u32 0,.int .u32 0]) 4 underlying199 k l m _ _ _ (y b) rfl rfl (by omega) (by rw[o];omega) (by unfold maxLen;omega) (ai _) ?_;intro W d c;have j:=U d;have i:=U c;clear d c)))
  go_loopw [3,11] (λan P wr=>∃n:M,n<=y b/\P=ap n/\wr.ownsRow (z<|G w) 289 4 an n (dy<|b.take n)/\I az w wr) (λ_ P _=>y b-(intOf P).toNat)
  case atStart=>exact⟨0,bj _,rfl,j,I.dJ (S:=az) i<|by simp⟩
  case round=>
   obtain⟨n,hn,rfl,a,e⟩:=hrel;have q:=e.below (ai _) cO;have al:=e.size;obtain⟨au,X,s⟩:=aA a;by_cases g:n<y b
   .have hp:=(HL.below q).cell g;obtain⟨bb,N,v,O⟩:=(HW _<|ak g).below q;have r:=VK O;obtain⟨C,p,HT⟩:=dA (show dy (b.take<|n+1)=dy (b.take n)++[aJ b[n].num,dq<|y<|dG b[n].cs,dq<|y<|fo b[n].ks,dq<|ng<|fo b[n].ks]by rw[ah g,Fg];rfl) a e;have E:=a.lt;clear O a e q;unfold bA.ptr at hp;unfold Fh at r;generalize b[n].num=x0 at*;generalize y (dG b[n].cs)=x1 at*;generalize y (fo b[n].ks)=x2 at*;generalize ng (fo b[n].ks)=x3 at*;generalize b[n].tb=Q at*;subst s;go_wp2_with fail
    apply r.mono;rintro ao w1⟨rfl,f⟩;have A:=U<|(I.aR (S:=az) f).own p<|λ_ _ X=>X;have ad:=f.size;have x:=U f;clear f;go_wp2_with(first
     |(at_builtin;go_loud(refine bO _ rfl (.tmp 15) (.tmp 18) 199 rfl (z (G w)) 289 K (.agg #[.int .u64 0,.int .u32 0,.int .u32 0,.int .u32 0]) 4 24 underlying199 k l m o rfl (by decide) (.slice au n X) n (dy (b.take n)) rfl (aN A _) (R (z (G w1)) 0) 1 1 [.int .u64 x0,.int .u32 x1,.int .u32 x2,.int .u32 x3] rfl rfl (yj _ _ _ _ _ rfl) (by simp[Value.oneCell']) (by omega) (by omega) (by simp;omega) ?_;intro o2 w2 t u;have B:=U t;have D:=U u;clear t u)))
    go_roundw;case rel=>
     refine⟨n+1,g,by go_num,by rw[ae C];exact B,?_⟩;exact((HT.cr<|I.aR (S:=az) x).alloc _).trans (I.eT D)<|λk a=>.inr (E k a).1
    case measure=>simp[intOf];omega
   .have f:n=y b:=by omega
    subst f;rw[aX]at a;have p:=U a;have r:=U q;clear a q e;go_wp2;go_ret;exact⟨_,rfl,p,r⟩
def Mw(v:aa)(w:Y):(Go.method 554 100 v "From").run bz w=.ok (327,v) w:=by kernel_rfl
def Mu(v:aa)(w:Y):(Go.method 554 142 v "From").run bz w=.ok (331,v) w:=by kernel_rfl
def mP.xP(j:sf t b d i a)(c:b<=z (G a))(hF:∀k,t.F k->k<b)(g:t.Cl):mP t b (.iface 100 d) (cg i) a:=⟨_,d,_,d,rfl,Mw d,enters_of func327 (by kernel_rfl) rfl,λh l e f=>Tl h (j.same e) f (aC c e.1) hF g⟩
def mP.table(h:nF t b O.tb O.ks O.cs a)(c:b<=z (G a))(hF:∀k,t.F k->k<b)(f:t.Cl):mP t b (.iface 142 O.ptr) O.all a:=⟨_,O.ptr,_,O.ptr,rfl,Mu O.ptr,enters_of func331 (by kernel_rfl) rfl,λg i d e=>CG g (h.same d) e (aC c d.1) hF f⟩
def JY:(prog.info? 254).map (λi=>(i.zero,i.size,i.bytes))=H (H .nilIface,1,16):=by kernel_rfl
structure Up(w:Y)(base:M)(t:bA)(bb wZ x GK:M):Prop where
 ks:t.ks=bS 0 t.cs
 num:t.num=0
 pieces:qB t.all t.cs
 mem:lS w t.tb (fj none) 0 0 0 0 bb 0 wZ (bB x 0 (y<|dG t.cs) GK) t.ks
 data:eP w base (bB x 0 (y<|dG t.cs) GK) (dG t.cs)
 GN:w.ownsRow base 310 5 (bB bb 0 (y t.ks) wZ) (y t.ks) (eI t.ks)
 new:base<=t.tb
def Xs(w:Y)(a:M)(t:bA):Prop:=∃d b x c,Up w a t d b x c
def Up.aw{S:fA}{w w':Y}(h:Up w c O g l A Q)(a:I S w w')(j:¬S O.tb)(e:¬S g)(k:¬S A):Up w' c O g l A Q:=⟨h.ks,h.num,h.pieces,h.mem.di (a.block _ h.mem.lt.1 j)<|a.block _ h.mem.lt.2 e,a.own h.data (λm d=>by cases d;exact k),a.own h.GN (λm d=>by cases d;exact e),h.new⟩
def Up.other(n:Up a b O c g l A)(q:I X a f)(k:∀o,X o->∃d T e,a.heap[o]?=H (ar d T e)/\T≠308/\T≠310/\T≠5):Up f b O c g l A:=by
 refine n.aw q (λm=>?_) (λm=>?_)<|λm=>?_;obtain⟨d,T,e,h,j,_⟩:=k _ m;exact lL h n.mem.box j rfl;obtain⟨d,T,e,h,_,j,_⟩:=k _ m;obtain⟨c2,p⟩:=fR n.GN (k:=c) rfl;grind
 obtain⟨d,T,e,h,_,_,j⟩:=k _ m;obtain⟨c2,p⟩:=fR n.data (k:=l) rfl;grind
structure NT where
 t:bA
 bb:M
 wZ:M
 x:M
 GK:M
def NT.Ok(w:Y)(a:M)(p:NT):Prop:=Up w a p.t p.bb p.wZ p.x p.GK
def NT.has(p:NT)(k:M):Prop:=k=p.t.tb\/k=p.bb\/k=p.x
def NT.nk(p q:NT):Prop:=∀k,p.has k->¬q.has k
def NT.Ok.lt{p:NT}(h:p.Ok a c):∀k,p.has k->c<=k/\k<z (G a):=by
 rintro k(rfl|rfl|rfl);exact⟨h.new,h.mem.lt.1⟩;exact⟨(h.GN.lt _ rfl).1,h.mem.lt.2⟩;exact eP.lt h.data _ rfl
def NT.Ok.aw{S:fA}{w w':Y}{p:NT}(h:p.Ok w c)(d:I S w w')(a:∀k,p.has k->¬S k):p.Ok w' c:=Up.aw h d (a _<|.inl rfl) (a _<|.inr<|.inl rfl)<|a _<|.inr<|.inr rfl
def NT.Ok.base{c base':M}{p:NT}(h:p.Ok a c)(d:base'<=c):p.Ok a base':=⟨h.ks,h.num,h.pieces,h.mem,h.data.base d,er h.GN d,aC d h.new⟩
def NT.Ok.D6{p:NT}(h:p.Ok a b):Xs a b p.t:=⟨_,_,_,_,h⟩
def qG(w:Y)(a:M)(d:cf):Prop:=∃c:cw NT,c.map NT.t=d/\(∀p∈c,p.Ok w a)/\c.Pairwise NT.nk
def qG.nil(w:Y)(a:M):qG w a []:=⟨[],rfl,by simp,List.Pairwise.nil⟩
def qG.each(h:qG a c i):∀t∈i,Xs a c t:=by
 obtain⟨g,rfl,d,_⟩:=h;intro t f;obtain⟨p,e,rfl⟩:=bW.1 f;exact(d p e).D6
def qG.aw{w w':Y}(g:qG w c o)(h:I az w w'):qG w' c o:=by
 obtain⟨j,a,d,e⟩:=g;exact⟨j,a,λp g=>(d p g).aw h<|λ_ _ k=>k,e⟩
def qG.other(k:qG a b o)(l:I X a f)(j:∀n,X n->∃c T d,a.heap[n]?=H (ar c T d)/\T≠308/\T≠310/\T≠5):qG f b o:=by
 obtain⟨m,e,g,h⟩:=k;exact⟨m,e,λp k=>Up.other (g p k) l j,h⟩
def qG.base{c base':M}(h:qG a c i)(g:base'<=c):qG a base' i:=by
 obtain⟨j,d,e,f⟩:=h;exact⟨j,d,λp h=>(e p h).base g,f⟩
def GF{a:cw NT}{q:NT}(h:a.Pairwise NT.nk)(b:∀p∈a,p.nk q):(a++[q]).Pairwise NT.nk:=by
 rw[bR];grind
def Ia(v:aa):∀(n:M)(a:dL)(i:M)(b:i<y a),(oz v n a)[i]?=H (zA v (n+y (a.take i).flatten)<|y a[i])
 |_,[],_,b=>absurd b<|ft _
 |n,p::a,0,_=>by simp[oz]
 |n,p::a,i+1,b=>by
  rw[oz,pz,Ia v (n+y p) a i<|by simpa using b];grind
def SD(h:kr a d e)(g:k.flatten=e)(f:b<y k)(c:k[b]≠[]):kr a (zA d (0+y (k.take b).flatten)<|y k[b]) k[b]:=by
 rw[dp];refine AZ (s:=(k.drop<|b+1).flatten) h ?_ c;have i:k=k.take b++k[b]::k.drop (b+1):=by rw[<-aZ f,bN]
 rw[<-g];grind
def wx:(prog.info? 142).map (λi=>(i.zero,i.size,i.bytes))=H (H<|fj none,1,8):=by kernel_rfl
def FD(l:cJ):fT ⟨#[]⟩ l=l:=fB.2 (λx _=>by rw[DI];rfl)
def vp(c:aa)(a b:cf):cw (aa×cJ):=(.iface 100 c,cg b)::a.map (λt=>(.iface 142 t.ptr,t.all))
def rO(d:eO)(a:Bool)(b c:cf):cJ:=gO d a<|cg c::b.map bA.all
def XY(w:Y)(x:aa)(T:TypeId):(cF w<|ar #[x] T).ownsRow (z<|G w) T 1 (bB (z<|G w) 0 1 1) 1 [x]:=⟨rfl,.inr ⟨z<|G w,1,#[x],rfl,ai _,aB _ rfl,ai _,by unfold maxLen;omega,rfl,rfl⟩⟩
structure KM(W wr:Y)(base:M)(o:aa)(ps:dL)(n:M)(tm:cf):Prop where
 own:wr.ownsRow base 142 1 o n (tm.map bA.ptr)
 len:y tm=n
 all:tm.map bA.all=ps.take n
 each:qG wr base tm
 aw:I az W wr
def KM.step{W wr w1 w2:Y}{o o2:aa}{f:dL}{a:M}{m:Obj}(t:KM W wr b o k c i)(E:c<y k)(S:b<=z (G W))(D:∀e,ct o=H e->z (G W)<=e)(h:NX wr w1 g k[c] f l A Q a)(F:w2.ownsRow b 142 1 o2 (c+1) (i.map bA.ptr++[ay g]))(r:eL (cF w1 m) w2 o o2):∃s,KM W w2 b o2 k (c+1) s/\∀e,ct o2=H e->z (G W)<=e:=by
 have K:=t.aw.size;have L:=h.aw.size;have x:I (λe=>ct o=H e) wr w2:=((h.aw.mono (T:=λe=>ct o=H e) cO).alloc m).trans (I.eT r)<|λ_ d=>.inl d;have n:∀e,ct o=H e->∃f,wr.heap[e]?=H (ar f 142 (0,0)):=λe d=>fR t.own d;have q:I (λe=>ct o=H e) w1 w2:=((I.refl (λe=>ct o=H e) w1).alloc m).trans (I.eT r)<|λ_ d=>.inl d;refine⟨i++[⟨g,bS 0 f,f,0⟩],⟨?_,by rw[af,t.len];rfl,?_,?_,t.aw.trans x<|λe d=>.inr<|D e d⟩,?_⟩;rw[aQ];exact F;rw[aQ,t.all,ah E];show _++[f.flatten]=_;rw[h.pieces.flat];obtain⟨O,B,u,C⟩:=t.each;have v:NT.Ok w1 (z<|G wr) ⟨⟨g,bS 0 f,f,0⟩,l,A,Q,a⟩:=⟨rfl,rfl,by have:=h.pieces;rw[<-this.flat]at this;exact this,h.mem,h.data,h.GN,h.new⟩;refine⟨O++[⟨⟨g,bS 0 f,f,0⟩,l,A,Q,a⟩],by rw[aQ,B];rfl,λN j=>?_,GF C<|λN j e d p=>?_⟩;rcases aE.1 j with j|j;exact Up.other (u N j) x (λe d=>by grind);rw[cX]at j;subst j;refine Up.other (NT.Ok.base v<|by omega) q<|λe d=>?_;obtain⟨P,w⟩:=n e d;exact⟨P,_,_,(h.aw.block e (am w) id).trans w,by decide,by decide,by decide⟩;have w:=((u N j).lt e d).2;have P:=(v.lt e p).1;omega;intro e d;rcases r.ur with u|⟨p,u,j⟩;(grind);rw[u]at d;cases d;simp at j;omega
def uF(h:kr a d e)(hs:dM e)(o:rq 5 e)(hg:∀bp∈e,bp.Good)(hl:y e<=1000000)(hv:∀P,ct d=H P->P<z (G a))(hT:Steps a):cD bz 161 #[d] a λbk L=>∃vm,∃l:cf,bk=aL vm/\L.ownsRow (z<|G a) 142 1 vm (y l) (l.map bA.ptr)/\l.map bA.all=gR e/\qG L (z<|G a) l/\I az a L:=by
 obtain⟨j0,aq,bc,bd,bf⟩:=cH wx;have t:=RS h hs hl hv;obtain⟨bp,bi,bb⟩:=bM h
 have W:=U (show∀n(x:n<y (gR e))(wr:Y),I az a wr->∃O b j,(oz d 0<|gR e)[n]?=H (bB O b (y (gR e)[n]) j)/\cD bz 147 #[bB O b (y (gR e)[n]) j] wr λbk L=>∃i cs bh c db f,bk=aL (ay i)/\NX wr L i (gR e)[n] cs bh c db f from by
  intro n x wr E;have C:(gR e)[n]∈gR e:=ak x;have k:=EO e _ C;have A:=SD h (we e) x k;obtain⟨O,b,j,u,B⟩:=A.some<|gJ.2 k;have p:O<z (G a):=by
   obtain⟨N,S,Q,g,_⟩:=h.some (by have:=(BO C).length_le;have:=gJ.2 k;omega);subst g;unfold zA at u;cases u;exact hv _ rfl
  rw[u]at A;refine⟨O,b,j,by rw[Ia d 0 (gR e) n x,u],?_⟩;obtain⟨_,⟨q,_⟩|⟨b',F,m,q,_,hc⟩⟩:=id A
  .cases q
  .cases q;have g:=BO C;exact Ei (gR e)[n] O b j wr (λP hk=>E.cell (hT P hk) id hT.lt) (ag p E.size) (λi u c=>E.cell (hc i u c) id p) B (gJ.2 k) (λa f=>hg a (g.subset f)) (hs.sub g) (λq d=>aC ((o.sub g).keys q d) (by omega)) (by have:=g.length_le;omega))
 have an:y (gR e)<=1000000:=aC (xI e) hl;clear h hs o hg hl hv hT;generalize gR e=K at*;obtain⟨ad,hN⟩:∃ad,y K=ad:=⟨_,rfl⟩;rw[hN]at t an;have HN:=U hN;clear hN;subst bb;go_in
 go_wp2_with fail
 apply t.mono;rintro bk W3⟨pv,rfl,r,s⟩;obtain⟨px,pc,rfl⟩:=aA r;have v:=U r;have w:=U s;have D:z (G a)<=z (G W3):=s.size;clear r s t;go_wp2;go_loopw [3,9] (λo i wr=>∃n:M,n<=ad/\i=ap n/\∃l,KM W3 wr (z<|G a) o K n l/\∀P,ct o=H P->z (G W3)<=P) (λ_ i _=>ad-(intOf i).toNat)
 case atStart=>exact⟨0,bj _,rfl,[],⟨bK _ _ _ _,rfl,rfl,qG.nil _ _,I.refl _ _⟩,(by intro P hk;cases hk)⟩
 case round=>
  obtain⟨n,bl,rfl,l,g,j⟩:=hrel;obtain⟨ox,oc,ho⟩:=aA g.own;by_cases k:n<ad
  .obtain⟨pg,bo,av,_,ax,_⟩:=uE v (by omega);cases av;have B:n<y K:=by rw[ae HN];exact k
   obtain⟨O,b,m,ba,A⟩:=W n B wr<|w.cr g.aw;have ao:aO wr (R pg n)=H (bB O b (y K[n]) m):=by
    refine g.aw.cell ?_ id ax;obtain⟨_,⟨bi,_⟩|⟨b',F,al,bi,_,hc⟩⟩:=da v
    .cases bi
    grind
   have N:=U g;have u:=U j;have bn:=g.aw.size;have e8:(n:Z)<(ad:Z):=by omega
   have e9:(0:Z)<=(n:Z):=by omega
   clear g j ba;generalize x:K[n]=pn at*;have X:=U x;have S:=U B;clear x;subst ho;go_wp2_with fail
   apply A.mono;rintro bk w4⟨i,cs,bh,c,db,f,rfl,p⟩;have T:=U<|p.aw.own N.own<|λ_ _ bi=>bi;have bm:=p.aw.size;have Q:=U p;clear p;go_wp2_with(first
    |(at_builtin;go_loud(refine bO _ rfl (.tmp 13) (.tmp 16) 100 rfl (z (G a)) 142 j0 (.pointer none) 1 8 underlying100 aq bc bd bf rfl (by decide) (.slice ox n oc) n (l.map bA.ptr) rfl (aN T _) (R (z (G w4)) 0) 1 1 [ay i] rfl rfl (pT _ _ _) (by simp[Value.oneCell']) (by omega) (by omega) (by simp;omega) ?_;intro o2 w5 C E;have V:=U C;have ac:=U E;clear C E)))
   go_roundw;case rel=>
    have p:=ae Q;rw[<-ae X]at p;obtain⟨bg,al,au⟩:=N.step S D u p V ac;exact⟨n+1,k,by go_num,bg,al,au⟩
   case measure=>simp[intOf];omega
  .have p:n=ad:=by omega
   subst p;have N:=U g;clear g j;subst ho;go_wp2;go_ret;have g:=ae N;refine⟨_,l,rfl,by rw[g.len];exact g.own,?_,g.each,w.cr g.aw⟩;rw[g.all,<-ae HN,aX]
def Fe(n x k A:M)(l:aa)(b c:cf)(h1:∀m(N:m<y b),aO a (R x<|k+m)=H b[m].ptr)(ad:x<n/\¬t.F x)(B:∀bg∈b,nF t n bg.tb bg.ks bg.cs a)(bc:y b<=100000000)(h2:sf t n l c a)(hD:t.D a)(j:n<=z (G a))(hF:∀v,t.F v->v<n)(hE:t.Cl)(hl:y (cG<|cg c::b.map bA.all)<=1000000):cD bz 206 #[bB x k (y b) A,l] a λba r=>∃vm,ba=aL (dw #[vm,.nilIface])/\r.ownsRow (z<|G a) 180 4 vm (y<|cG<|cg c::b.map bA.all) (aF<|cG<|cg c::b.map bA.all)/\t.D r/\I t.F a r:=by
 obtain⟨i0,al,au,av,ax⟩:=cH JY;have p:y (vp l b c)=y b+1:=by simp[vp]
 have i:∀wr d,I az a wr->wr.ownsRow (z<|G a) 254 1 d (y b+1) ((vp l b c).map (·.1))->cD bz 97 #[d,aj ⟨#[]⟩] wr λba r=>∃k f,ba=aL k/\jf t n k (cG<|cg c::b.map bA.all) f r/\t.D r/\I t.F wr r/\(∀v,f v->z (G wr)<=v):=by
  intro wr d P u;have q:jF t n az a wr:=P.same j cO cO;have hn:=BH n (vp l b c) d ⟨#[]⟩ (by rw[p];exact da u) (λv s=>⟨(u.lt v s).2,λac=>by have:=hF v ac;have:=(u.lt v s).1;omega⟩) (by omega) (by
   intro m N;cases m with
   |zero=>exact(mP.xP h2 j hF hE).same q
   |succ m=>
    have e:m<y b:=by rw[p]at N;omega
    have:(vp l b c)[m+1]=(.iface 142 b[m].ptr,b[m].all):=by simp[vp]
    rw[this];exact(mP.table (B _ (ak e)) j hF hE).same q) (t.fD hD P cO) (aC j P.size) hF
  have C:(vp l b c).map (·.2)=cg c::b.map bA.all:=by simp[vp]
  rw[C,mj (g:=id)<|λl _=>FD l,tW]at hn;exact hn
 obtain⟨NL,E⟩:∃NL,cG (cg c::b.map bA.all)=NL:=⟨_,rfl⟩;rw[E]at i hl|-;clear E;have w:=U i;have HC:=U (show∀wr,I az a wr->∀m(N:m<y b),aO wr (R x<|k+m)=H b[m].ptr fromλwr P m N=>P.cell (h1 m N) id<|ag ad.1 j);clear h1 B h2 hD i;go_in
 go_wp2;go_loopw [6,14] (λd m wr=>∃o:M,o<=y b/\m=ap o/\wr.ownsRow (z<|G a) 254 1 d (o+1) (((vp l b c).take<|o+1).map (·.1))/\I az a wr) (λ_ m _=>y b-(intOf m).toNat)
 case atStart=>exact⟨0,bj _,rfl,XY _ _ _,(cK _ _)⟩
 case round=>
  obtain⟨o,hn,rfl,d,e⟩:=hrel;obtain⟨bi,ac,u⟩:=aA d;have bb:=e.size;have aq:=d.lt;by_cases O:o<y b
  .have Q:=HC wr e o O;have F:=U (show((vp l b c).take<|o+1+1).map (·.1)=((vp l b c).take<|o+1).map (·.1)++[.iface 142<|ay<|b[o].tb]from by
    rw[ah (by rw[p];omega),aQ];simp[vp,bA.ptr])
   have L:=U d;have S:=U e;clear d e;unfold bA.ptr at Q;generalize b[o].tb=C at*;subst u;go_wp2_with(first
    |(at_builtin;go_loud(refine bO _ rfl (.tmp 18) (.tmp 21) 192 rfl (z (G a)) 254 i0 .nilIface 1 16 underlying192 al au av ax rfl (by decide) (.slice bi (o+1) ac) (o+1) (((vp l b c).take (o+1)).map (·.1)) rfl (aN L _) (R (z (G wr)) 0) 1 1 [.iface 142 (ay C)] rfl rfl (pT _ _ _) (by simp[Value.oneCell']) (by omega) (by omega) (by simp;omega) ?_;intro V w2 f q;have D:=U f;have K:=U q;clear f q)))
   go_roundw;case rel=>
    refine⟨o+1,O,by go_num,by rw[ae F];exact D,?_⟩;exact(S.alloc _).trans (I.eT K)<|λv s=>.inr (aq v s).1
   case measure=>simp[intOf];omega
  .have an:o=y b:=by omega
   subst an;rw[cZ<|by omega]at d;have ao:=w wr u6 e d;have S:=U e;clear d e;subst u;go_wp2_with fail
   apply ao.mono;rintro ba w1⟨v1,S1,rfl,L,C,q,F⟩;have X:=U<|S.mono (T:=t.F) cO|>.trans q (λ_ ac=>.inl ac);have bf:=S.size;have bd:=q.size;have K:=Dh L C (by omega);have W:=U F;clear q L C F;go_wp2_with fail
   apply K.mono;rintro ba w2⟨bh,rfl,f,D,Q⟩;obtain⟨rx,rc,rfl⟩:=aA f;have V:=U<|And.intro (er (base':=z<|G a) f<|by omega) (And.intro D (X.trans Q<|λv s=>s.elim (λac=>.inr (by have:=W v ac;omega)) .inl));clear f D Q K;go_wp2;go_ret2
   exact⟨_,rfl,V.1,V.2.1,V.2.2⟩
def Tk(n:M)(w:Y)(v:n<=1000000000):cD bz 202 #[aD,ap n] w λt r=>∃q,t=aL q/\r.ownsRow (z<|G w) 142 1 q 0 []/\I az w r:=by
 obtain⟨l,j,k,s,e⟩:=cH wx;have u:¬((n:Z)<0):=by omega
 rcases gB n with g|g;(.subst g;(go_in);go_wp2;go_ret;exact⟨_,rfl,bK _ _ _ _,I.refl _ _⟩)
 .have c:(Builtin.firstCells l.size 0 aD).run bz w.drew=.ok ([]:iC).toArray w.drew:=run_firstCells_none w.drew l.size 0 0 0;have d:∀m,(Builtin.append_ #[100,3] m #[aD,ap n]).run bz w=_:=λm=>
   Lib.run_append_grow_zeros w 100 3 m 142 l (fj none) .i64 .i64 underlying100 underlying3 j k none 0 0 [] c n g (by omega) (by omega) (by omega) (by rw[e];omega) (sG (by omega) (by rw[e];omega))
  simp only[dp]at d;have i:n<=grownCap w n 0 142:=grownCap_ge w _ _ _;have b:=sH w n 0 142 (by unfold maxLen;omega);obtain⟨a,o⟩:∃a,a=grownCap w n 0 142:=⟨_,rfl⟩;rw[<-o]at d i b;have f:=U<|show(cF w<|ar (Builtin.zeroCells #[fj none] n++Builtin.zeroCells #[fj none] (a-n)) 142).drew.ownsRow (z<|G w) 142 1 (bB (z<|G w) 0 0 a) 0 []from jd (World.ownsRow_made w _ a (ai _) b (by simp[size_zeroCells];omega)) rfl;have p:a<=9223372036854775807:=by unfold maxLen at b;omega
  clear c o b;go_in
  go_wp2_with(at_builtin;refine Lib.wpList_append_run _ rfl _ _ _ _ rfl _ _ rfl rfl _ _ (d _) ?_)
  go_ret;exact⟨_,rfl,f,(cK az w).of_heap rfl⟩
def qn(a:cw (aa×cf)):iC:=(a.map<|λp=>p.2.map bA.ptr).flatten
def mf(a:cw (aa×cf)):M:=(a.map<|λp=>y p.2).sum
def OZ(a:cw (aa×cf))(p:aa×cf):qn (a++[p])=qn a++p.2.map bA.ptr:=by simp[qn]
def Bz(a:cw (aa×cf))(p:aa×cf):mf (a++[p])=mf a+y p.2:=by simp[mf]
def yy(a:cw (aa×cf))(n:M):mf (a.take n)<=mf a:=by
 have h:=bX (λl=>(l.map (λp:aa×cf=>y p.2)).sum)<|bN n a;simp only[aQ,eR]at h;unfold mf;omega
def tE(N f u:M)(a:cw (aa×cf))(w:Y)(hc:∀i(k:i<y a),aO w (R N<|f+i)=H a[i].1)(hb:N<z (G w))(hr:∀i(k:i<y a),Row w 1 a[i].1 (y a[i].2)<|a[i].2.map bA.ptr)(E:∀i(k:i<y a),∀ax,ct a[i].1=H ax->ax<z (G w))(hn:y a<=1000000)(hs:mf a<=100000000):cD bz 146 #[bB N f (y a) u] w λbh w'=>∃v',bh=aL v'/\w'.ownsRow (z<|G w) 142 1 v' (mf a) (qn a)/\I az w w':=by
 obtain⟨i0,B,aq,au,av⟩:=cH wx;have HC:=U (show∀wr,I az w wr->∀i(k:i<y a),aO wr (R N<|f+i)=H a[i].1 fromλwr ht i k=>ht.cell (hc i k) id hb);have HR:=U (show∀wr,I az w wr->∀i(k:i<y a),Row wr 1 a[i].1 (y a[i].2) (a[i].2.map bA.ptr)fromλwr ht i k=>ht.row (hr i k)<|λax hk=>⟨id,E i k ax hk⟩);clear hc hr E;go_in
 go_wp2;go_loopw [3,11] (λac i wr=>∃n:M,n<=y a/\i=ap n/\ac=ap (mf (a.take n):M)/\wr=w) (λ_ i _=>y a-(intOf i).toNat)
 case atStart=>exact⟨0,bj _,rfl,rfl,rfl⟩
 case round=>
  obtain⟨n,bd,rfl,rfl,bf⟩:=hrel;subst wr;by_cases g:n<y a
  .have ad:=HC w (I.refl _ _) n g;have o:=HR w (I.refl _ _) n g;have p:=yy a<|n+1;have d:=U (show mf (a.take<|n+1)=mf (a.take n)+y a[n].2 by rw[ah g,Bz]);rw[ae d]at p;generalize a[n].1=bk at*;generalize a[n].2=P at*;generalize mf (a.take n)=l at*;obtain⟨O,⟨rfl,v⟩|⟨bg,j,t,rfl,al,x⟩⟩:=o
   .have b:=U v;clear O v;go_wp2;go_roundw;case rel=>exact⟨n+1,g,by go_num,by rw[ae d,ae b,jn],trivial⟩
    case measure=>simp[intOf];omega
   .clear O x;have b:¬((l:Z)+(y P:Z)<0):=by omega
    go_wp2;go_roundw;case rel=>exact⟨n+1,g,by go_num,by rw[ae d];go_num,trivial⟩
    case measure=>simp[intOf];omega
  .have m:n=y a:=by omega
   subst m;rw[aX];have A:=Tk (mf a) w (by omega);obtain⟨s,hM⟩:∃s,mf a=s:=⟨_,rfl⟩;rw[hM]at A hs|-;have Q:=U hM;clear hM;go_wp2_with fail
   apply A.mono;rintro bh w1⟨v1,rfl,C,F⟩;have S:=U C;have W:=U F;clear C F;go_wp2;go_loopw [6,27] (λo i wr=>∃n:M,n<=y a/\i=ap n/\wr.ownsRow (z<|G w) 142 1 o (mf<|a.take n) (qn<|a.take n)/\I az w wr) (λ_ i _=>y a-(intOf i).toNat)
   case atStart=>exact⟨0,bj _,rfl,S,W⟩
   case round=>
    obtain⟨n,ba,rfl,b,e⟩:=hrel;have an:=b.lt;have ao:=e.size;have bb:=yy a n;by_cases c:n<y a
    .have ad:=HC wr e n c;have o:=HR wr e n c;have p:=yy a<|n+1;have d:=U (show mf (a.take<|n+1)=mf (a.take n)+y a[n].2 by rw[ah c,Bz]);have r:=U (show qn (a.take<|n+1)=qn (a.take n)++a[n].2.map bA.ptr by rw[ah c,OZ]);rw[ae d,ae Q]at p;generalize a[n].1=bk at*;generalize a[n].2=P at*;generalize qn (a.take n)=pn at*;generalize mf (a.take n)=l at*;obtain⟨bc,ac,ho⟩:=aA b;have q:=U b;have L:=U e;clear b e;subst ho;obtain⟨O,⟨rfl,v⟩|⟨bg,j,t,rfl,al,x⟩⟩:=o
     .obtain rfl:=aP v;clear O v;have D:∀a,(Builtin.append_ #[100,100] a #[J bc l ac,aD]).run bz wr=.ok (J bc l ac) wr:=λa=>run_append_owned_none wr (z<|G w) 100 a 142 i0 1 underlying100 B (J bc l ac) l pn q;go_wp2_with(at_builtin;refine Lib.wpList_append_run _ rfl _ _ _ _ rfl _ _ rfl rfl _ _ (D _) ?_)
      go_roundw;case rel=>
       refine⟨n+1,c,by go_num,?_,L⟩;rw[ae d,ae r];simpa using ae q
      case measure=>simp[intOf];omega
     .go_wp2_with(first
       |(at_builtin;go_loud(refine bO _ rfl (.tmp 31) (.tmp 32) 100 rfl (z (G w)) 142 i0 (.pointer none) 1 8 underlying100 B aq au av rfl (by decide) (.slice bc l ac) l pn rfl q (R bg j) (y P) t (P.map bA.ptr) rfl (by simp) (λbl bi hj=>by rw[du];grind) (by intro bi hu;obtain⟨bm,_,rfl⟩:=bW.1 hu;rfl) (by omega) (by omega) ao ?_;intro o2 w2 D K;have V:=U D;have X:=U K;clear D K)))
      go_roundw;case rel=>
       refine⟨n+1,c,by go_num,by rw[ae d,ae r];exact V,?_⟩;exact L.trans (I.eT X)<|λax hk=>.inr (an ax hk).1
      case measure=>simp[intOf];omega
    .have m:n=y a:=by omega
     subst m;rw[aX,ae Q]at b;obtain⟨bc,ac,ho⟩:=aA b;have q:=U b;have L:=U e;clear b e;subst ho;go_wp2;go_ret;exact⟨_,rfl,by rw[ae Q];exact q,L⟩
structure DB(w:Y)(lb lo:M)(Ls:cw (aa×cf)):Prop where
 len:y Ls=4
 cell:∀i(hi:i<y Ls),aO w (R lb<|lo+i)=H Ls[i].1
 row:∀i(hi:i<y Ls),Row w 1 Ls[i].1 (y Ls[i].2)<|Ls[i].2.map bA.ptr
 pS:∀i(hi:i<y Ls),∀k,ct Ls[i].1=H k->k<z (G w)
 small:mf Ls<=100000000
def DB.lt{d:cw (aa×cf)}(h:DB a c g d):c<z (G a):=dj a (R c<|g+0)<|h.cell 0 (by have:=h.len;omega)
def so{w:Y}{lb lo:M}(a:cw (aa×cf))(h:DB w lb lo a):cD bz 164 #[fj<|H<|R lb lo] w λj w'=>∃e,j=aL e/\w'.ownsRow (z<|G w) 142 1 e (mf a) (qn a)/\I az w w':=by
 have b:=tE lb lo 4 a w h.cell h.lt h.row h.pS (by have:=h.len;omega) h.small;rw[h.len]at b;clear h;go_in
 go_wp2_with fail
 apply b.mono;rintro j k⟨i,rfl,c,d⟩;have f:=U c;have g:=U d;clear c d;go_wp2;go_ret;exact⟨i,rfl,f,g⟩
def jZ(a:cw (aa×cf))(n:M):Bool:=(a.drop n).all<|λp=>p.2.isEmpty
def FI{a:cw (aa×cf)}(h:b<y a):jZ a b=(a[b].2.isEmpty&&jZ a (b+1)):=by
 unfold jZ;rw[aZ h,List.all_cons]
def CX{w:Y}{lb lo:M}(n:M)(d:cw (aa×cf))(h:DB w lb lo d)(V:n<=4):cD bz 207 #[fj<|H<|R lb lo,ap n] w λL K=>L=aL (aK<|jZ d n)/\K=w:=by
 have f:=h.len;have F:=h.small;have v:=U h.cell;have x:=U h.row;clear h;rcases gU n 4 with C|C;(·(have N:(n:Z)<=4:=by omega);(have O:¬(4-n=0):=by omega);(have P:¬(4=n):=by omega);(have Q:(0:Z)<=(n:Z):=by omega);(go_in);go_wp2;(go_loopw [12] (λu wr=>∃m:M,n+m<=4/\u=ap m/\jZ d n=jZ d (n+m)/\wr=w) (λu _=>4-n-(intOf u).toNat));(case atStart=>grind);(case round=>obtain⟨m,T,rfl,e,p⟩:=hrel;subst wr;by_cases E:m<4-n;(·(have l:n+m<y d:=by omega);have k:=v (n+m) l;have o:=x (n+m) l;have b:=FI l;rw[<-aV]at k;have HEq:=U e;clear e;generalize d[n+m].1=X at*;generalize d[n+m].2=s at*;(have B:(m:Z)<((4-n:M):Z):=by omega);obtain⟨j,⟨rfl,t⟩|⟨W,r,A,rfl,D,g⟩⟩:=o;(.obtain rfl:=aP t;have c:=U b;clear j t b;go_wp2;go_roundw;(case rel=>exact⟨m+1,by omega,by go_num,by rw[ae HEq,ae c];rfl,trivial⟩);case measure=>simp[intOf];omega);(.rcases gB (y s)with q|q;(.obtain rfl:=aP q;have c:=U b;clear j b g q;go_wp2;go_roundw;(case rel=>exact⟨m+1,by omega,by go_num,by rw[ae HEq,ae c];rfl,trivial⟩);case measure=>simp[intOf];omega);(have i:s.isEmpty=aY:=by grind);rw[i,xu]at b;have c:=U b;clear j b g i;(have S:(0:Z)<(y s:Z):=by omega);go_wp2;go_ret;exact⟨by rw[ae HEq,ae c];rfl,rfl⟩));(have b:n+m=4:=by omega);(have a:jZ d n=bU:=by rw[e,b,<-f];unfold jZ;rw[gh];rfl);have c:=U a;(have B:¬(m:Z)<((4-n:M):Z):=by omega);clear a e b;go_wp2;go_ret;exact⟨by rw[ae c];rfl,rfl⟩));(·(obtain rfl:n=4:=by omega);(have a:jZ d 4=bU:=by rw[<-f];unfold jZ;rw[gh];rfl);rw[a];(go_in);go_wp2;(go_loopw [12] (λu wr=>u=ap 0/\wr=w) (λ_ _=>0));(case atStart=>grind);(case round=>obtain⟨rfl,p⟩:=hrel;subst wr;go_wp2;go_ret;simp_all))
section
open Shelf
attribute [local go_sem] Oper.semAt_some
def bk(a:iC):M->cw (M×aa)
 |0=>[]
 |j+1=>(j,a.getD j .nilIface)::bk a j
def YK(p:M×aa):Array aa:=#[ap p.1,p.2]
def Kv(v:aa)(x:Option Addr)(n c:M)(a:v=J x n c)(w:Y):cD bz 224 #[v] w λe b=>e=aL (.func (.func 264) #[] #[ay<|z<|G w])/\b=cF w (ar #[v] 100):=by
 subst a;go_in
 go_wp2;go_ret;simp_all
def Qu(F bf:M)(W:ep a b d 100)(hr:Row a 1 d (y x) x)(n:∀p,ct d=H p->p<F)(X:F<=z (G a))(ax:y x<=1000000000):IV YK AY F bf 264 #[ay b] (bk x<|y x) (λp=>p=b) a:=by
 intro lr bc Jx bb bd hs hD hJ v C ac hY;obtain⟨ba,ao,hv⟩:=bM hr;obtain⟨HB,HR,O,HS,HJ,S,HY,P⟩:=FB W hr n hs hJ v hY C;have aq:aO bd (R b 0)=H d:=hs.cell (.inl rfl) W.cell;clear W hr n hs hJ v C ac hY hD;subst hv;refine ru func264 rfl trivial ?_ rfl;simp only[ntmps264,eU,aS,dH,Nat.reduceAdd,Nat.reduceSub,dR,dQ,eV,eD,cU,cL];gi_wp2;gi_loopw [3] (λi wr=>∃(j:M)(f:cw (M×aa))(s:fA),i=ap ((j:Z)-1)/\j<=y x/\bk x (y x)=f++bk x j/\bc f s wr/\(∀p,p=b->¬s p)/\jF AY F (λp=>p=b) a wr) (λi _=>(intOf i+1).toNat)
 case atStart=>exact⟨y x,[],bb,by go_num,ai _,rfl,HJ,S,HS⟩
 case round=>
  obtain⟨j,f,s,rfl,hj,m,g,i,c⟩:=hrel;have au:aO wr (R b 0)=H (J ba (y x) ao):=c.cell (.inl rfl) HB.cell;cases j with
  |zero=>
   have q:=U g;have N:=U m;clear g i c m;gi_wp2;refine vL (iT rfl _ _ _) rfl ?_;refine⟨⟨_,rfl⟩,.inl ⟨s,?_,trivial⟩⟩;have m:=ae N;rw[show bk x 0=[]from rfl,ee]at m;rw[m];exact q
  |succ j=>
   have ej:(((j+1:M):Z)-1)=(j:Z):=by omega
   rw[ej];have r:x.getD j .nilIface=x[j]:=by rw[sM,aI hj];rfl
   have w:∃an e,ba=H (R an e)/\aO wr (R an<|e+j)=H x[j]:=by
    obtain⟨h1,⟨L,h0⟩|⟨av,A,K,L,al,V⟩⟩:=ae HR
    .omega
    .cases L;exact⟨av,A,rfl,c.cell (.inr ⟨O _ rfl,id⟩)<|V j _<|aI hj⟩
   obtain⟨an,e,E,w⟩:=w;have o:(f++[(j,x[j])])<+:bk x (y x):=⟨bk x j,by rw[m,show bk x (j+1)=(j,x.getD j .nilIface)::bk x j from rfl,r];simp⟩;have B:bk x (y x)=(f++[(j,x[j])])++bk x j:=by rw[m,show bk x (j+1)=(j,x.getD j .nilIface)::bk x j from rfl,r];simp
   have N:=U B;obtain⟨fn,ad,D,body,hy,hR⟩:=HY f (j,x[j]) s wr o g trivial;unfold YK at hy;simp only at hy;obtain⟨Q,q,T⟩:=dA hR g c;have l:=U i;clear g c i m B o hR r ej;generalize x[j]=xj at*;have e1:(j:Z)<(y x:Z):=by omega
   have e2:(0:Z)<=(j:Z):=by omega
   subst E;gi_wp2;refine⟨(λao=>(by cases ao)),Q.mono ?_⟩;rintro bg W3(⟨rfl,_,B3,u,k,t⟩|⟨rfl,E⟩)
   .have L:=U u;have V:=U k;have K:=U t;clear u k t;gi_wp2;go_roundw;case rel=>
     have k:=ae V;have c:=ae T;have av:b<z (G wr):=ag (am HB) c.1;refine⟨j,f++[(j,xj)],B3,by go_num,by omega,N,L,λp A al=>?_,?_⟩
     .rcases K p al with al|al
      .exact l p A al
      grind
     .refine c.trans ?_;exact k.same (aC X c.1) (λp A=>⟨by grind,l p A⟩) (λp A a=>by have:=(P _ _ _ q p A).1;omega)
    case measure=>simp[intOf]
   .have A:=U E;clear E;gi_wp2;refine cP (iT rfl _ _ _) rfl ?_;exact⟨⟨_,rfl⟩,.inr ⟨_,A⟩⟩
end
def WZ(h:i.Sublist o):iF i<=iF o:=by
 induction h with
 |slnil=>grind
 |cons x _ a=>unfold iF at*;grind
 |cons_cons x _ a=>unfold iF at*;grind
def JM{w:Y}(b c t:M){ts1 p:cf}(hi:t+1<4)(c1:aO w (R b<|c+t)=H d)(c2:aO w (R b<|c+(t+1))=H u)(K:b<z (G w))(Q:iS w d ts1)(h2:iS w u p)(hs:Bl p)(ba:0<y ts1)(ax:iF p<=1000000000):cD bz 204 #[fj<|H<|R b c,ap t] w λs e=>∃ac:M,s=aL (ap ac)/\ac<y ts1/\Below (z<|G w) w e:=by
 rcases Q.shape with⟨_,h0⟩|⟨b1,bg,bf,rfl,_⟩;grind
 have bl:=Q.small;have e1:(t:Z)<4:=by omega
 have e2:(0:Z)<=(t:Z):=by omega
 obtain⟨al,an,HS,ad⟩:=gH Q h2 hs c2;clear Q h2 hs c2;go_in
 go_wp2;go_loopw [5,6,19] (λa le n wr=>∃ac bd k:M,ac<y ts1/\bd<=9223372036854775807/\k<=y ts1/\a=ap ac/\le=ap bd/\n=ap k/\Below (z<|G w) w wr) (λ_ _ n _=>y ts1-(intOf n).toNat)
 case atStart=>exact⟨0,9223372036854775807,0,ba,ai _,bj _,rfl,rfl,rfl,Below.refl _ _⟩
 case round=>
  obtain⟨ac,bd,k,hj,hm,hk,rfl,rfl,rfl,j⟩:=hrel;have HB:=U j;by_cases a:k<y ts1
  .have f:=al.below j;have C:=an.below j;have hp:=f.cell a;have c2:aO wr (R b<|c+(t+1))=H u:=(j.cell (p:=(R b<|c+(t+1))) K).trans ad;have m:∀W,W.heap=wr.heap->cD bz 124 #[ts1[k].ptr] W λs e=>s=aL (aj<|fg ts1[k].ks)/\e=W:=λW i=>((f.each _<|ak a).of_heap i).first;have n:∀W,W.heap=wr.heap->cD bz 125 #[ts1[k].ptr] W λs e=>s=aL (aj<|fS ts1[k].ks)/\∃q,e=W.drewN q:=λW i=>((f.each _<|ak a).of_heap i).last;have hcut:∀W,W.heap=wr.heap->W.os=wr.os->W.tape=wr.tape->W.output=wr.output->cD bz 205 #[u,aj<|fg ts1[k].ks,aj<|fS ts1[k].ks] W λs e=>∃T O V,s=aL (dw #[T,O,V])/\(∃S,iS e O S/\iF S<=1000000000)/\Below (z<|G w) w e/\aO e (R b<|c+(t+1))=H u:=by
    intro W i ao aq au;apply(MO (fg ts1[k].ks) (fS ts1[k].ks) (C.of_heap i) HS).mono;rintro s e⟨bn,bm,T,O,V,rfl,_,_,bb,_,_,g⟩;have l:Below (z<|G w) w W:=j.of_heap (by rw[i,ao,aq,au]);refine⟨T,O,V,rfl,⟨_,bb,aC (WZ<|(nA _ _).trans<|kG _ _) ax⟩,l.trans<|g.mono l.size,?_⟩;exact(g.cell (p:=(R b<|c+(t+1)))<|ag K l.size).trans<|(cR (w:=wr)<|by rw[i]).trans c2
   clear j f C;unfold bA.ptr at hp m n;generalize fg ts1[k].ks=s1 at*;generalize fS ts1[k].ks=s2 at*;generalize ts1[k].tb=bh at*;obtain⟨r,L⟩:∃r,t+1=r:=⟨_,rfl⟩;rw[L]at c2 hcut hi;have e3:(t:Z)+1=(r:Z):=by omega
   have e4:(r:Z)<4:=by omega
   have e5:(0:Z)<=(r:Z):=by omega
   have e6:IntKind.i64.wrap (r:Z)=(r:Z):=by rw[bw];omega
   have e7:r<4:=by omega
   clear L;go_wp2_with fail
   rename_i QQ KK bi;go_region_held3(λa=>aO a (R b<|c+r)=H u) (first|assumption|go_keep) (first
    |(go_at_call 124;refine(m wr.drew rfl).mono ?_;rintro s X⟨rfl,bc⟩;subst X;have o:aO wr.drew (R b<|c+r)=H u:=c2)
    |(go_at_call 125;refine(n wr.drew rfl).mono ?_;rintro s X⟨rfl,q,bc⟩;subst X;have o:aO (wr.drew.drewN q) (R b<|c+r)=H u:=c2)
    |(go_at_call 205;refine(hcut (wr.drewN (1+q)) rfl rfl rfl rfl).mono ?_;rintro s X⟨T,O,V,rfl,N,E,o⟩;have A:=U N;have x:=U E;clear N E))
   obtain⟨S,B,av⟩:=ae A;have F:=zQ B av;clear B A hcut m n o;generalize iF S=P at*;go_wp2_with fail
   apply F.mono;rintro s w2⟨rfl,D⟩;have v:=U<|x.trans<|D.mono x.size;clear D F;by_cases bk:P<bd
   .have e8:(P:Z)<(bd:Z):=by omega
    go_wp2;go_roundw;case rel=>exact⟨k,P,k+1,a,by omega,a,rfl,rfl,by go_num,v⟩
    case measure=>simp[intOf];omega
   .have e8:¬(P:Z)<(bd:Z):=by omega
    go_wp2;go_roundw;case rel=>exact⟨ac,bd,k+1,hj,hm,a,rfl,rfl,by go_num,v⟩
    case measure=>simp[intOf];omega
  .have f:k=y ts1:=by omega
   subst f;clear j;go_wp2;go_ret;exact⟨ac,rfl,hj,HB⟩
section
open Shelf
attribute [local go_sem] Oper.semAt_some
structure RB(w0:Y)(vs:iC)(B:fA)(W:Y):Prop where
 row:∃v,ep W (z<|G w0) v 192/\W.ownsRow (z (G w0)+1) 254 1 v (y vs) vs/\(∀k,B k↔k=z (G w0)\/ct v=H k)
 aw:I az w0 W
def RB.lt(h:RB a x X C):∀k,X k->z (G a)<=k/\k<z (G C):=by
 intro k e;obtain⟨v,i,c,d⟩:=h.row;rcases(d k).1 e with g|g;grind
 have:=c.lt k g;grind
def RB.stays{T:fA}(j:RB a x X f)(e:I T f C)(c:∀k,T k->¬X k/\z (G a)<=k):RB a x X C:=by
 obtain⟨v,g,i,b⟩:=j.row;exact⟨⟨v,(e.block _ (am g)<|λh=>(c _ h).1<|(b _).2<|.inl rfl).trans g,e.own i<|λk d h=>(c k h).1<|(b k).2<|.inr d,b⟩,j.aw.trans e<|λk d=>.inr (c k d).2⟩
def RB.more{d:iC}{v c x:aa}{B:Obj}(A:RB a d X f)(q:ep f (z<|G a) v 192)(n:∀k,X k↔k=z (G a)\/ct v=H k)(u:f.ownsRow (z (G a)+1) 254 1 v (y d) d)(s:eL (cF f B) C v c)(e:C.ownsRow (z (G a)+1) 254 1 c (y d+1) (d++[x])):∃l,RB a (d++[x]) l (cA C (R (z<|G a) 0) c)/\I X f (cA C (R (z<|G a) 0) c)/\(∀k,l k->X k\/z (G f)<=k):=by
 have j:∀k,ct v=H k->z (G a)+1<=k/\k<z (G f):=λk b=>u.lt k b;have r:∀k,ct c=H k->z (G a)+1<=k:=λk b=>(e.lt k b).1;have o:I (λk=>ct v=H k) f C:=((I.refl (λk=>ct v=H k) f).alloc B).trans (I.dJ (S:=λk=>ct v=H k) s.grown<|λk b=>.inl b)<|λk b=>.inl b;have h:ep C (z<|G a) v 192:=(o.block _ (am q) (λm=>by have:=(j _ m).1;omega)).trans q;have g:I X f (cA C (R (z<|G a) 0) c):=(o.mono (T:=X)<|λk b=>.inl<|(n k).2<|.inr b).setCell _ _ _<|.inl<|(n _).2<|.inl rfl;refine⟨λk=>k=z (G a)\/ct c=H k,⟨⟨c,h.set _,?_,λk=>rA⟩,?_⟩,g,?_⟩;rw[show y (d++[x])=y d+1 by simp];exact e.kept (de C _ _ _) (by grind);exact A.aw.trans g<|λk b=>.inr (A.lt k b).1;rintro k(m|m);(grind);rcases s.ur with w|⟨D,w,t⟩;(grind);rw[w]at m;cases m;simp at t;grind
def LG(t:bA):aa:=.iface 142 t.ptr
def BG(p:aa×cf):aa:=.iface 100 p.1
end
def sZ(b:eO)(a:Bool)(c:dL):(gO b a c).Sublist (dI b<|cG c):=by
 unfold gO;grind[kg]
def td{ms:eO}{lowest:Bool}(c:dM (cG k))(d:∀x∈cG k,x.Good)(e:y (cG k)<=1000000)(g:y ms<=4):dM (gO ms lowest k)/\rq 5 (gO ms lowest k)/\(∀x∈gO ms lowest k,x.Good)/\y (gO ms lowest k)<=1000000:=by
 have b:=sZ ms lowest k;have a:=b.trans<|js ms<|cG k;exact⟨c.sub a,((yx c).sub b).mono (by omega),λx f=>d x<|a.subset f,aC a.length_le e⟩
def If{V:iY}{W:Y}{ms:eO}{mx:Option Addr}{mc:M}(b:cJ)(s:Row W 1 (J mx (y ms) mc) (y ms) (ms.map<|Value.int .u64))(d:∀k,ct (J mx (y ms) mc)=H k->k<z (G W)/\¬V.F k)(t:y ms<=4)(p:dM b)(o:y b<=1000000):(∀(e:Y)(a:M)(m:Option Addr)(j:M),I V.F W e->e.ownsRow a 180 4 (J m (y b) j) (y b) (aF b)->cD bz 58 #[J m (y b) j,J mx (y ms) mc] e λr h=>∃g,r=aL g/\h.ownsRow (z<|G e) 180 4 g (y<|dI ms b) (aF<|dI ms b)/\I az e h)/\(∀(i:Y)(a:M)(n:Option Addr)(l:M),i.ownsRow a 180 4 (J n (y<|dI ms b) l) (y<|dI ms b) (aF<|dI ms b)->cD bz 162 #[J n (y<|dI ms b) l] i λr h=>∃g,r=aL g/\h.ownsRow (z<|G i) 180 4 g (y<|gA<|dI ms b) (aF<|gA<|dI ms b)/\I az i h):=by
 constructor;intro e a m j q f;exact wk ms (da f) p o (q.row s<|λk c=>⟨(d k c).2,(d k c).1⟩) (by omega) (λk c=>(f.lt k c).2)<|λk c=>ag (d k c).1 q.size;intro i a n l f;exact NC (da f) (p.sub<|js ms b) (aC (js ms b).length_le o)<|λk c=>(f.lt k c).2
section
open Shelf
attribute [local go_sem] Oper.semAt_some
def Xe(a:cf):∀j,j<=y a->(bk (a.map bA.ptr) j).map (λp=>Value.iface 142 p.2)=((a.take j).map LG).reverse
 |0,_=>by simp[bk]
 |j+1,h=>by
  have b:j<y a:=h;rw[bk,bZ,Xe a j (by omega),ah b,aQ,List.reverse_append];simp only[bZ,fW,tV,List.reverse_nil,cU,jU,oR,xh];rw[sM,dP,aI b];rfl
def pE(a b c d:aa×cf):iC:=((a.2.map LG).reverse)++[BG b]++[BG c]++[BG d]
def Pt{w:Y}{lb lo:M}(p0 p1 p2 p3:aa×cf)(h:DB w lb lo [p0,p1,p2,p3]):cD bz 160 #[fj<|H<|R lb lo] w λeu w'=>∃v',eu=aL v'/\w'.ownsRow (z<|G w) 254 1 v' (y<|pE p0 p1 p2 p3) (pE p0 p1 p2 p3)/\I az w w':=by
 obtain⟨i0,bt,bu,bv,bo⟩:=cH JY;obtain⟨v0,e⟩:=p0;obtain⟨v1,q⟩:=p1;obtain⟨v2,r⟩:=p2;obtain⟨v3,s⟩:=p3;have c0:aO w (R lb lo)=H v0:=h.cell 0 (by simp);have c1:aO w (R lb<|lo+1)=H v1:=h.cell 1 (by simp);have c2:aO w (R lb<|lo+2)=H v2:=h.cell 2 (by simp);have c3:aO w (R lb<|lo+3)=H v3:=h.cell 3 (by simp);have cj:Row w 1 v0 (y e) (e.map bA.ptr):=h.row 0 (by simp);have dc:∀bf,ct v0=H bf->bf<z (G w):=h.pS 0 (by simp);obtain⟨x0,ao,rfl⟩:=bM cj;obtain⟨x1,K,rfl⟩:∃cd bd,v1=J cd (y q) bd:=bM (h.row 1<|by simp);obtain⟨x2,L,rfl⟩:∃cd bd,v2=J cd (y r) bd:=bM (h.row 2<|by simp);obtain⟨x3,N,rfl⟩:∃cd bd,v3=J cd (y s) bd:=bM (h.row 3<|by simp);have et:y e<=100000000:=by have:=h.small;simp[mf]at this;omega
 have ch:=h.lt;obtain⟨ce,ea,eb,ed,cn⟩:=je c1 c2 c3 cj dc;clear h cj dc c1 c2 c3;refine(dh (n:=3)).1 ?_;refine callsIn_of_wp_marks func160 rfl trivial ?_ rfl;simp only[ntmps160,eU,aS,dH,Nat.reduceAdd,Nat.reduceSub,dR,dQ,eV,eD,cU,cL];gi_wp2;refine wpIn_loop_rounds 5 ?_;rw[roundsIn_succ];gi_wp2;rename_i QQ KK x;apply GL KK;(.intro au;refine sy.2 ?_;(go_region);all_goals exact au);apply x;clear x;have ei:=λef=>Kv (J x0 (y e) ao) x0 (y e) ao rfl ef;gi_wp2_with(refine⟨trivial,?_⟩;gi_at_call 224;refine(dh.2<|ei _).mono ?_;rintro eu w1⟨rfl,rfl⟩)
 have e1:z (G (cF (cF w<|ar #[aD] 192)<|ar #[J x0 (y e) ao] 100).drew)=z (G w)+2:=by simp
 obtain⟨W0,ax⟩:∃W0,(cF (cF w<|ar #[aD] 192)<|ar #[J x0 (y e) ao] 100).drew=W0:=⟨_,rfl⟩;rw[ax]at e1;have bn:I az w W0:=by rw[<-ax];exact((cK az w).alloc _).of_heap rfl
 have dd:ep W0 (z (G w)+1) (J x0 (y e) ao) 100:=by rw[<-ax];exact aB (w:=cF w<|ar #[aD] 192) _<|by simp
 have dk:ep W0 (z<|G w) aD 192:=by rw[<-ax];exact ep.alloc (w:=cF w<|ar #[aD] 192) (aB (w:=w) _ rfl) _
 have cc:Row W0 1 (J x0 (y e) ao) (y<|e.map bA.ptr) (e.map bA.ptr):=by rw[cV];exact bn.row ed<|λbf hk=>⟨id,cn bf hk⟩
 have cM:RB w [] (λbf=>bf=z (G w)) W0:=⟨⟨aD,dk,bK _ _ _ _,λbf=>by simp[ct]⟩,bn⟩;rw[ax];refine nQ (α:=M×aa) (arg:=YK) (m:=3) (V:=AY) (n0:=z<|G w) (gf:=264) (lb:=#[ay<|z (G w)+1]) (l:=bk (e.map bA.ptr)<|y<|e.map bA.ptr) (S:=λbf=>bf=z (G w)+1) ?geval (enters_of func264 (by kernel_rfl) rfl) (λ_=>rfl) (Qu (z<|G w) 2 dd cc cn bn.size (by simp;omega)) trivial bn.size ?slt (λbp ej ef=>RB w (bp.map<|λek=>Value.iface 142 ek.2) ej ef) (λ_ _ _ _=>False) (λbf=>bf=z (G w)) cM ?sb ?lt ?st (λ_ _ _ _ _ _ h=>h.elim) ?body ?done ?stop;case geval=>rfl
 (case slt=>grind);(case sb=>grind);(case lt=>intro bp ej ef h bf hk;exact h.lt bf hk);(case st=>intro bp ej ef u T h t o;refine h.stays t<|λbf hk=>⟨(o bf hk).1,?_⟩;rcases(o bf hk).2 with bd|bd|bd;omega;exact bd.elim;omega);(case stop=>grind)
 case body=>
  intro lr bp cd ej ef bh X al t hC _;obtain⟨xi,T⟩:=cd;obtain⟨C,u⟩:∃C,bp.map (λek=>Value.iface 142 ek.2)=C:=⟨_,rfl⟩;have Q:y C<=100000000:=by
   have:=t.length_le;rw[<-u];simp only[cV,af,aS,dH]at this|-;have hb:∀(a:iC)an,y (bk a an)=an:=λa an=>by induction an with|zero=>rfl|succ an ih=>simp[bk,ih]
   rw[hb]at this;omega
  rw[u]at hC;obtain⟨HC,av,ad⟩:=dA hC u t;clear hC t u;obtain⟨NN,v⟩:∃NN,y C=NN:=⟨_,rfl⟩;have i:=U v;unfold YK;simp only;gi_wp2;refine⟨I.refl _ _,λW2 o=>?_⟩;have g:RB w C ej W2:=HC.stays o (λbf hk=>by grind);obtain⟨dT,k,b,j⟩:=g.row;rw[v]at b;have aq:aO W2 (R (z<|G w) 0)=H dT:=k.cell;have ba:W2.frozen? (R (z<|G w) 0)=aY:=k.free;obtain⟨ex,ec,O⟩:=aA b;have F:=am k;have bg:NN<=100000000:=by omega
  obtain⟨ce,P,f,p,W⟩:=je g k b j o;clear g k b j o Q v;subst O;gi_wp2_with(first
   |(gi_at_builtin;refine dV _ rfl (.tmp 27) (.tmp 30) 192 rfl (z (G w)+1) 254 i0 .nilIface 1 16 underlying192 bt bu bv bo rfl (by decide) (.slice ex NN ec) NN C rfl (aN f (.cells #[Value.iface 142 T] 254)) (R (z (G W2)) 0) 1 1 [Value.iface 142 T] rfl rfl (vH _ _ _) (Vz rfl) (by omega) (by omega) (by simp;omega) ?_;intro cl w3 a d;obtain⟨bc,bb,rfl⟩:=aA a;have c:ep w3 (z (G w)) (.slice ex NN ec) 192:=(d.grown.block _ (am (P.alloc (.cells #[Value.iface 142 T] 254))) (λbd=>by have:=(f.lt _ bd.symm).1;omega)).trans (P.alloc _);have D:=c.cell;have E:=c.free;clear c;have A:=U a;have B:=U d;clear a d))
  obtain⟨B',q1,q2,q3⟩:=ce.more (x:=Value.iface 142 T) P p (by rw[ae i];exact f) B (by rw[ae i];exact A);have o:=ae W;have bo:=o.size;have ac:I (λbf=>ej bf\/bf=lr) ef W2:=o.mono<|λbf hk=>.inl<|.inr hk;refine⟨trivial,B',?_,ac.trans q2<|λbf hk=>.inl<|.inl hk,q2.block lr (by omega) X,λbf hk=>?_⟩
  .grind[ae]
  grind
 case done=>
  intro cm B1 W1 es hC bi _ hK;have dv:(bk (e.map bA.ptr)<|y<|e.map bA.ptr).map (λek=>Value.iface 142 ek.2)=(e.map LG).reverse:=by
   rw[cV,Xe e _<|ai _,aX]
  rw[dv]at hC;obtain⟨T,W⟩:∃NN,y (e.map LG).reverse=NN:=⟨_,rfl⟩;have cT:T<=100000000:=by rw[<-W];grind
  have t:(e.map LG).reverse++[BG (J x1 (y q) K,q)]++[BG (J x2 (y r) L,r)]++[BG (J x3 (y s) N,s)]=pE (J x0 (y e) ao,e) (J x1 (y q) K,q) (J x2 (y r) L,r) (J x3 (y s) N,s):=rfl;unfold BG at t;simp only at t;generalize(e.map LG).reverse=bq at hC W t;have C:=U hC;have o:=U hK;clear hC hK dv;clear ax dd dk cc cM bn;gi_wp2;rw[roundsIn_succ];have dm:aO W1 (R lb<|lo+1)=H (J x1 (y q) K):=C.aw.cell ce id ch;gi_wp2;rename_i QQ KK x;apply GL KK
  .intro au;refine sy.2 ?_;go_region
   all_goals exact au
  apply x;clear x dm;have g:RB w bq B1 W1.drew:=C.stays (ci az W1) cO;have u:W1.drew.heap[cm]?=H (.deferred<|H []):=ae o;generalize W1.drew=U1 at g u|-;clear C o;obtain⟨dT,k,b,j⟩:=g.row;rw[W]at b;have aq:aO U1 (R (z<|G w) 0)=H dT:=k.cell;have ba:U1.frozen? (R (z<|G w) 0)=aY:=k.free;obtain⟨cv,cq,O⟩:=aA b;have F:=am k;obtain⟨P,f,p,C,av,i⟩:=jX k b j g u W;clear k b j g u W;subst O;gi_wp2_with(first
   |(gi_at_builtin;refine dV _ rfl (.tmp 18) (.tmp 21) 192 rfl (z (G w)+1) 254 i0 .nilIface 1 16 underlying192 bt bu bv bo rfl (by decide) (.slice cv T cq) T bq rfl (aN f (.cells #[Value.iface 100 (.slice x1 (y q) K)] 254)) (R (z (G U1)) 0) 1 1 [Value.iface 100 (.slice x1 (y q) K)] rfl rfl (vH _ _ _) (Vz rfl) (by omega) (by omega) (by simp;omega) ?_;intro cl w3 a d;obtain⟨bc,bb,rfl⟩:=aA a;have c:ep w3 (z (G w)) (.slice cv T cq) 192:=(d.grown.block _ (am (P.alloc (.cells #[Value.iface 100 (.slice x1 (y q) K)] 254))) (λbd=>by have:=(f.lt _ bd.symm).1;omega)).trans (P.alloc _);have D:=c.cell;have E:=c.free;clear c;have A:=U a;have B:=U d;clear a d))
  obtain⟨B2,q1,q2,q3⟩:=C.more (x:=Value.iface 100<|J x1 (y q) K) P p (by rw[ae i];exact f) B (by rw[ae i];exact A);have bl:¬B2 cm:=λbd=>(q3 cm bd).elim bi (λbp=>by have:=am av;omega);have v:=(q2.block cm (am av) bi).trans av;generalize cA w3 (R (z<|G w) 0) (J bc (T+1) bb)=W2 at q1 v|-;have X:y (bq++[Value.iface 100<|J x1 (y q) K])=T+1:=by rw[af,ae i];rfl
  generalize bq++[Value.iface 100<|J x1 (y q) K]=br at q1 X t;have bg:=U q1;have co:=U v;have ca:T+1<=100000000+1:=by omega
  clear q1 q2 q3 v P f p C av i B A bi F cT D E;clear aq ba;obtain⟨al,ad⟩:∃cd,T+1=cd:=⟨_,rfl⟩;rw[ad]at X ca;clear ad;rw[roundsIn_succ];have dn:aO W2 (R lb<|lo+2)=H (J x2 (y r) L):=bg.aw.cell ea id ch;gi_wp2;rename_i QQ KK x;apply GL KK
  .intro au;refine sy.2 ?_;go_region
   all_goals exact au
  apply x;clear x dn;have g:RB w br B2 W2.drew:=bg.stays (ci az W2) cO;have u:W2.drew.heap[cm]?=H (.deferred<|H []):=ae co;generalize W2.drew=U2 at g u|-;clear bg co;obtain⟨dT,k,b,j⟩:=g.row;rw[X]at b;have aq:aO U2 (R (z<|G w) 0)=H dT:=k.cell;have ba:U2.frozen? (R (z<|G w) 0)=aY:=k.free;obtain⟨cx,cs,O⟩:=aA b;have F:=am k;obtain⟨P,f,p,Q,o,i⟩:=jX k b j g u X;clear k b j g u X;subst O;gi_wp2_with(first
   |(gi_at_builtin;refine dV _ rfl (.tmp 18) (.tmp 21) 192 rfl (z (G w)+1) 254 i0 .nilIface 1 16 underlying192 bt bu bv bo rfl (by decide) (.slice cx al cs) al br rfl (aN f (.cells #[Value.iface 100 (.slice x2 (y r) L)] 254)) (R (z (G U2)) 0) 1 1 [Value.iface 100 (.slice x2 (y r) L)] rfl rfl (vH _ _ _) (Vz rfl) (by omega) (by omega) (by simp;omega) ?_;intro cl w3 a d;obtain⟨bc,bb,rfl⟩:=aA a;have c:ep w3 (z (G w)) (.slice cx al cs) 192:=(d.grown.block _ (am (P.alloc (.cells #[Value.iface 100 (.slice x2 (y r) L)] 254))) (λbd=>by have:=(f.lt _ bd.symm).1;omega)).trans (P.alloc _);have D:=c.cell;have E:=c.free;clear c;have A:=U a;have B:=U d;clear a d))
  obtain⟨B3,q1,q2,q3⟩:=Q.more (x:=Value.iface 100<|J x2 (y r) L) P p (by rw[ae i];exact f) B (by rw[ae i];exact A);have bm:¬B3 cm:=λbd=>(q3 cm bd).elim bl (λbp=>by have:=am o;omega);have v:=(q2.block cm (am o) bl).trans o;generalize cA w3 (R (z<|G w) 0) (J bc (al+1) bb)=W3 at q1 v|-;have ac:y (br++[Value.iface 100<|J x2 (y r) L])=al+1:=by rw[af,ae i];rfl
  generalize br++[Value.iface 100<|J x2 (y r) L]=bs at q1 ac t;have bh:=U q1;have cp:=U v;have cb:al+1<=100000000+2:=by omega
  clear q1 q2 q3 v P f p Q o i B A bl F ca D E;clear aq ba;obtain⟨an,ad⟩:∃cd,al+1=cd:=⟨_,rfl⟩;rw[ad]at ac cb;clear ad;rw[roundsIn_succ];have ds:aO W3 (R lb<|lo+3)=H (J x3 (y s) N):=bh.aw.cell eb id ch;gi_wp2;rename_i QQ KK x;apply GL KK
  .intro au;refine sy.2 ?_;go_region
   all_goals exact au
  apply x;clear x ds;have g:RB w bs B3 W3.drew:=bh.stays (ci az W3) cO;have u:W3.drew.heap[cm]?=H (.deferred<|H []):=ae cp;generalize W3.drew=U3 at g u|-;clear bh cp;obtain⟨dT,k,b,j⟩:=g.row;rw[ac]at b;have aq:aO U3 (R (z<|G w) 0)=H dT:=k.cell;have ba:U3.frozen? (R (z<|G w) 0)=aY:=k.free;obtain⟨cB,cu,O⟩:=aA b;have F:=am k;obtain⟨P,f,p,Q,o,i⟩:=jX k b j g u ac;clear k b j g u ac;subst O;gi_wp2_with(first
   |(gi_at_builtin;refine dV _ rfl (.tmp 18) (.tmp 21) 192 rfl (z (G w)+1) 254 i0 .nilIface 1 16 underlying192 bt bu bv bo rfl (by decide) (.slice cB an cu) an bs rfl (aN f (.cells #[Value.iface 100 (.slice x3 (y s) N)] 254)) (R (z (G U3)) 0) 1 1 [Value.iface 100 (.slice x3 (y s) N)] rfl rfl (vH _ _ _) (Vz rfl) (by omega) (by omega) (by simp;omega) ?_;intro cl w3 a d;obtain⟨bc,bb,rfl⟩:=aA a;have c:ep w3 (z (G w)) (.slice cB an cu) 192:=(d.grown.block _ (am (P.alloc (.cells #[Value.iface 100 (.slice x3 (y s) N)] 254))) (λbd=>by have:=(f.lt _ bd.symm).1;omega)).trans (P.alloc _);have D:=c.cell;have E:=c.free;clear c;have A:=U a;have B:=U d;clear a d))
  obtain⟨B4,q1,q2,q3⟩:=Q.more (x:=Value.iface 100<|J x3 (y s) N) P p (by rw[ae i];exact f) B (by rw[ae i];exact A);have cE:¬B4 cm:=λbd=>(q3 cm bd).elim bm (λbp=>by have:=am o;omega);have v:=(q2.block cm (am o) bm).trans o;generalize cA w3 (R (z<|G w) 0) (J bc (an+1) bb)=W4 at q1 v|-;have bT:y (bs++[Value.iface 100<|J x3 (y s) N])=an+1:=by rw[af,ae i];rfl
  generalize bs++[Value.iface 100<|J x3 (y s) N]=em at q1 bT t;have bx:=U q1;have ec:=U v;have db:an+1<=100000000+3:=by omega
  clear q1 q2 q3 v P f p Q o i B A bm F cb D E;clear aq ba;obtain⟨el,ad⟩:∃cd,an+1=cd:=⟨_,rfl⟩;rw[ad]at bT db;clear ad;rw[roundsIn_succ];obtain⟨dT,k,b,j⟩:=bx.row;have aq:aO W4 (R (z<|G w) 0)=H dT:=k.cell;obtain⟨eq,eo,O⟩:=aA b;have f:=U b;have p:=U j;subst O;clear k b j;gi_wp2;have dx:=gG W4 cm<|.deferred none;refine⟨by simp,.inl ⟨_,_,rfl,run_takeDeferred ec,?_⟩⟩;refine⟨_,gm rfl _ _ _,?_⟩;have b:=ae f;have hB:=ae p;rw[t]at b hB;have hx:=dx.own b<|λbf hk bd=>cE<|(hB cm).2<|.inr (by rw[<-bd];exact hk);refine⟨_,rfl,?_,bx.aw.trans dx<|λbf hk=>.inr<|by grind⟩;obtain⟨h1,⟨h2,h0⟩|⟨ev,en,eg,h2,hb,ck⟩⟩:=hx
  .exact⟨h1,.inl ⟨h2,h0⟩⟩
  .exact⟨h1,.inr ⟨ev,en,eg,h2,by omega,ck⟩⟩
end
def zG{c:Func}{D O:Tmp}(Q:c.results=#[.cell D 102,.tmp O])(a:Array aa)(w:Y)(g:M)(e f h i:aa)(N:TypeId)(d:M×M)(S:a.getD D ix=ay g)(p:w.heap[g]?=H (ar #[e,f,h,i] N d))(j:∃x n k,e=J x n k)(l:∃x n k,f=J x n k)(m:∃x n k,h=J x n k)(o:∃x n k,i=J x n k):(results c a).run bz w=.ok (dw #[dW #[e,f,h,i],a.getD O ix]) w:=by
 obtain⟨E,v,r,rfl⟩:=j;obtain⟨F,A,s,rfl⟩:=l;obtain⟨K,B,t,rfl⟩:=m;obtain⟨L,C,u,rfl⟩:=o;have b:a[D]?.getD ix=ay g:=by simp_all
 have q:=kJ (P:=bz) w g N 102 #[J E v r,J F A s,J K B t,J L C u] d _ p underlying102 rfl (by kernel_rfl);simp[results,Q,b,asAddr,q,Result.andThen]
def Fk{e f g h a' b' c' d':aa}{t:TypeId}{c:M×M}(j:a.heap[b]?=H (ar #[e,f,g,h] t c)):(cA (cA (cA (cA a (R b 0) a') (R b 1) b') (R b 2) c') (R b 3) d').heap[b]?=H (ar #[a',b',c',d'] t c):=by
 have d:=aT (i:=3) (u:=d')<|aT (i:=2) (u:=c')<|aT (i:=1) (u:=b')<|aT (i:=0) (u:=a') j;rw[d];simp
def TX(S g f:M)(x1 x A:Option Addr)(n1 v w c1 c2 c3:M)(d:cf)(O P:cf)(cb:Row a 1 (bB S g (y d) f) (y d) (d.map bA.ptr))(bf:S<b/\¬t.F S)(cq:∀et∈d,nF t b et.tb et.ks et.cs a)(h1:sf t b (J x1 n1 c1) i a)(ej:Row a 1 (J x v c2) (y O) (O.map bA.ptr))(ek:Row a 1 (J A w c3) (y P) (P.map bA.ptr))(ed:∀k,ct (J x v c2)=H k->k<b/\¬t.F k)(ef:∀k,ct (J A w c3)=H k->k<b/\¬t.F k)(hD:t.D a)(s:b<=z (G a))(hF:∀k,t.F k->k<b)(hE:t.Cl)(hT:Steps a)(cE:1<b/\¬t.F 1)(bn:y d+y i+y O+y P<=1000000)(p:eO)(mx:Option Addr)(mc:M)(hm:Row a 1 (J mx (y p) mc) (y p) (p.map<|Value.int .u64))(bi:∀k,ct (J mx (y p) mc)=H k->k<b/\¬t.F k)(dd:y p<=4)(c:Bool)(bp:c=(O.isEmpty&&P.isEmpty))(hs:dM (cG<|cg i::d.map bA.all))(hg:∀eF∈cG (cg i::d.map bA.all),eF.Good)(hl:y (cG<|cg i::d.map bA.all)<=1000000):cD bz 148 #[dW #[bB S g (y d) f,J x1 n1 c1,J x v c2,J A w c3],ap 0,J mx (y p) mc] a λC K=>∃F br B,∃e:cf,C=aL (dw #[dW #[aD,J F br B,J x v c2,J A w c3],.nilIface])/\K.ownsRow (z<|G a) 142 1 (J F br B) (y e) (e.map bA.ptr)/\e.map bA.all=gR (rO p c d i)/\qG K (z<|G a) e/\t.D K/\I t.F a K:=by
 have V:I az a (cF (cF a<|ar #[bB S g (y d) f,J x1 n1 c1,J x v c2,J A w c3] 102)<|ar #[aD,aD,aD,aD] 102):=(cK _ a).alloc _;generalize bh:cF (cF a<|ar #[bB S g (y d) f,J x1 n1 c1,J x v c2,J A w c3] 102) (ar #[aD,aD,aD,aD] 102)=bv at V;have bg:bv.heap[z<|G a]?=H (ar #[bB S g (y d) f,J x1 n1 c1,J x v c2,J A w c3] 102 (0,0)):=by rw[<-bh];grind[gl,aB]
 have cs:bv.heap[z (G a)+1]?=H (ar #[aD,aD,aD,aD] 102 (0,0)):=by rw[<-bh];exact aB _<|by simp
 have ao:∀r,I az a r->jF t b az a r:=λr ht=>ht.same s cO cO;have ca:∀k,b<=k->¬t.F k:=λk o dv=>by have:=hF k dv;omega
 have dc:∀r,I t.F bv r->DB r (z<|G a) 0 [(bB S g (y d) f,d),(J x1 n1 c1,i),(J x v c2,O),(J A w c3,P)]:=by
  intro r al;have bq:∀ds c,Row a 1 ds (y c) (c.map bA.ptr)->(∀k,ct ds=H k->k<b/\¬t.F k)->Row r 1 ds (y c) (c.map bA.ptr):=λds c hr o=>
   al.row (V.row hr<|λk C=>⟨id,ag (o k C).1 s⟩) (λk C=>⟨(o k C).2,ag (o k C).1<|aC s V.size⟩)
  have hz:z (G a)<=z (G r):=aC V.size al.size;have cc:=(al.block _ (am bg)<|ca _ s).trans bg;have bT:∀au ds,(#[bB S g (y d) f,J x1 n1 c1,J x v c2,J A w c3]:Array aa)[au]?=H ds->aO r (R (z<|G a)<|0+au)=H ds:=by
   intro au ds hv;rw[bL cc,dp];exact hv
  refine⟨rfl,λau hi=>?_,λau hi=>?_,λau hi k o=>?_,by simp[mf];omega⟩
  .match au,hi with
   |0,_=>grind
   |1,_=>grind
   |2,_=>grind
   |3,_=>grind
  .match au,hi with
   |0,_=>exact bq _ _ cb (λk C=>by cases C;exact bf)
   |1,_=>exact bq _ _ h1.row<|λk C=>h1.loc k C
   |2,_=>grind
   |3,_=>grind
  .match au,hi with
   |0,_=>cases o;grind
   |1,_=>exact ag (h1.loc k o).1<|aC s hz
   |2,_=>grind
   |3,_=>grind
 have D:∀r,I t.F bv r->cD bz 207 #[ay<|z<|G a,ap 2] r λC K=>C=aL (aK c)/\K=r:=by intro r al;have h:=CX (w:=r) (lb:=z<|G a) (lo:=0) 2 _ (dc _ al) (by omega);(have he:jZ [(bB S g (y d) f,d),(J x1 n1 c1,i),(J x v c2,O),(J A w c3,P)] 2=c:=by rw[bp];simp[jZ]);rw[he]at h;exact h
 have an:∀q,cD bz 206 #[bB S g (y d) f,J x1 n1 c1] (bv.drewN q) λC K=>∃c,C=aL (dw #[c,.nilIface])/\K.ownsRow (z<|G bv) 180 4 c (y<|cG<|cg i::d.map bA.all) (aF<|cG<|cg i::d.map bA.all)/\t.D K/\I t.F (bv.drewN q) K:=by intro q;have bq:I az a (bv.drewN q):=V.of_heap rfl;have bn:=ao _ bq;refine Fe b S g f (J x1 n1 c1) d i ?_ bf (λet ht=>(cq et ht).same bn) (by omega) (h1.same bn) (t.fD hD bq cO) (aC s bq.size) hF hE hl;intro au hi;obtain⟨_,⟨dv,_⟩|⟨b',es,cc,dv,_,hc⟩⟩:=cb.same bn (λk C=>by cases C;exact bf);cases dv;grind
 have cu:=If (V:=t) (W:=bv) (ms:=p) (mx:=mx) (mc:=mc) (cG<|cg i::d.map bA.all) (V.row hm<|λk C=>⟨id,ag (bi k C).1 s⟩) (λk C=>⟨ag (bi k C).1<|aC s V.size,(bi k C).2⟩) dd hs hl;have cx:∀r,I t.F bv r->Steps r:=λr ht k o=>ht.cell (V.cell (hT k o) id hT.lt) cE.2<|ag hT.lt V.size;have cB:dM (rO p c d i)/\rq 5 (rO p c d i)/\(∀eF∈rO p c d i,eF.Good)/\y (rO p c d i)<=1000000:=td hs hg hl dd;obtain⟨ch,cj,bs,dT,av,cm,ac,HW,bu⟩:=xU bg cs D an cu cx cB V ca;have ex:∀e:cf,e.map bA.all=gR (rO p c d i)->y e<=100000000:=by intro e h;have:=bX y h;rw[cV]at this;have:=xI<|rO p c d i;omega
 have ec:=U bh;have eA:=V.size;have dk:rO p c d i=if c then gA (dI p<|cG<|cg i::d.map bA.all)else dI p (cG<|cg i::d.map bA.all):=rfl;have ba:=U dk;clear cb bf cq h1 ej ek ed ef hD hF hT cE bp hg hl hs hm bi bg cs ao dc D an cu cx cB V ca bh dk;generalize cG (cg i::d.map bA.all)=ML at*;generalize rO p c d i=cp at*;go_in
 go_wp2_with fail
 go_quiet(fail)
 rw[ae ec];have an:=dT nq;go_wp2_with fail
 apply an.mono;rintro C Q⟨en,rfl,u,ad,N⟩;have j:I t.F bv Q:=(gD t.F bv nq).trans N<|λ_ h=>.inl h;obtain⟨n,l,rfl⟩:=aA u;have dm:=av.1 Q _ n l j u;have X:=U ad;have bc:=U j;clear u ad N j an;go_wp2_with fail
 apply dm.mono;rintro C W⟨vn,rfl,bm,cd⟩;have aq:I t.F bv W:=bc.cr cd;have cv:=t.fD X cd cO;obtain⟨xn,eo,rfl⟩:=aA bm;have D:=bs W aq;have bx:=av.2 W _ xn eo bm;have dn:=bc.size;obtain⟨ax,L,bt⟩:=dA cv aq bm;clear bm cv aq cd dm;cases c;(case' false=>obtain rfl:cp=dI p ML:=ae ba;clear bx av ba;(go_wp2_with fail);apply D.mono;rintro C ce⟨rfl,em⟩;subst ce;clear D;obtain⟨bb,bd,ck⟩:=dA (er (base':=z<|G a) bt<|by omega) L ax;clear L ax bt bc X bs;generalize W=w3 at*);(case' true=>obtain rfl:cp=gA (dI p ML):=ae ba;(go_wp2_with fail);apply D.mono;rintro C ce⟨rfl,em⟩;subst ce;(go_wp2_with fail);apply bx.mono;rintro C w3⟨vb,rfl,bq,cc⟩;obtain⟨xn,eo,rfl⟩:=aA bq;obtain⟨bb,bd,ck⟩:=dA (er (base':=z<|G a) bq (by have:=L.size;omega)) (L.cr cc)<|t.fD ax cc cO;clear bq cc D bx L ax bt bc X bs av ba dn)
 all_goals
  have ei:=uF (da bb) ac.1 ac.2.1 ac.2.2.1 ac.2.2.2 (λk o=>(bb.lt k o).2)<|cm w3 bd;clear bb cm ac;go_wp2_with fail
  apply ei.mono;rintro C Q⟨en,e,rfl,u,cM,bk,N⟩;have j:I t.F bv Q:=bd.cr N;have ad:=t.fD ck N cO;have ez:=bd.size;obtain⟨n,l,rfl⟩:=aA u;have cT:=(j.block _ (am ch)<|bu _ s).trans ch;have db:=(j.block _ (am cj)<|bu _<|by omega).trans cj;have ey:=j.size;have bk:=bk.base (base':=z<|G a) (by omega);have hC:cD bz 146 #[bB (z<|G Q) 0 3 3] (cF Q<|ar #[aD,J n (y e) l,aD] 100) λC K=>∃v',C=aL v'/\K.ownsRow (z<|G a) 142 1 v' (y e) (e.map bA.ptr)/\I az Q K:=by
   have bT:∀au ds,(#[J none 0 0,J n (y e) l,aD]:Array aa)[au]?=H ds->aO (cF Q<|ar #[aD,J n (y e) l,aD] 100) (R (z<|G Q)<|0+au)=H ds:=by
    simp_all
   have el:Row (cF Q<|ar #[aD,J n (y e) l,aD] 100) 1 (J n (y e) l) (y e) (e.map bA.ptr):=da<|aN u _;have h:=tE (z<|G Q) 0 3 [(J none 0 0,[]),(J n (y e) l,e),(J none 0 0,[])] (cF Q<|ar #[aD,J n (y e) l,aD] 100) ?_ (by simp) ?_ ?_ (by simp) (by simp[mf];grind)
   .have e1:mf [(J none 0 0,[]),(J n (y e) l,e),(J none 0 0,[])]=y e:=by simp[mf]
    have e2:qn [(J none 0 0,[]),(J n (y e) l,e),(J none 0 0,[])]=e.map bA.ptr:=by simp[qn]
    rw[e1,e2]at h;apply h.mono;rintro C K⟨v',rfl,ho,ht⟩;exact⟨v',rfl,er ho (by simp;omega),(cK az Q).cr ht⟩
   .grind
   .intro au hi;match au,hi with
    |0,_=>exact⟨rfl,.inl ⟨rfl,rfl⟩⟩
    |1,_=>exact el
    |2,_=>exact⟨rfl,.inl ⟨rfl,rfl⟩⟩
   .intro au hi k o;match au,hi with
    |0,_=>cases o
    |1,_=>have:=(aG u k o).2;simp;omega
    |2,_=>cases o
  obtain⟨ea,X,eb,dx,cn,co⟩:=jX bk ad j cM cT db;clear u cM bk ad N j cT db;go_wp2_with fail
  apply hC.mono;rintro C W⟨eB,rfl,bl,E⟩;obtain⟨F,B,rfl⟩:=aA bl;have Bp:=(E.block _ (am cn) id).trans cn;have m:=(E.block _ (am co) id).trans co;have p0:=cellAt Bp 0 rfl;have p1:=cellAt Bp 1 rfl;have p2:=cellAt Bp 2 rfl;have p3:=cellAt Bp 3 rfl;have f0:=dE (i:=0) Bp;have f1:=dE (i:=1) Bp;have q0:=cellAt m 0 rfl;have q1:=cellAt m 1 rfl;have q2:=cellAt m 2 rfl;have q3:=cellAt m 3 rfl;have g0:=dE (i:=0) m;have g1:=dE (i:=1) m;have g2:=dE (i:=2) m;have g3:=dE (i:=3) m;obtain⟨ev,L,eu⟩:=dA bl E m;have cl:=U (show∀wf,wf=cA (cA (cA (cA (cA (cA W (R (z<|G a) 0) aD) (R (z<|G a) 1)<|J F (y e) B) (R (z (G a)+1) 0) aD) (R (z (G a)+1) 1)<|J F (y e) B) (R (z (G a)+1) 2)<|J x v c2) (R (z (G a)+1) 3) (J A w c3)->wf.heap[z (G a)+1]?=H (ar #[aD,J F (y e) B,J x v c2,J A w c3] 102 (0,0))/\wf.ownsRow (z<|G a) 142 1 (J F (y e) B) (y e) (e.map bA.ptr)/\qG wf (z<|G a) e/\t.D wf/\I t.F a wf from by
   rintro wf rfl;have hx:((cA (cA W (R (z<|G a) 0) aD) (R (z<|G a) 1)<|J F (y e) B)).heap[z (G a)+1]?=H (ar #[aD,aD,aD,aD] 102 (0,0)):=(iw _<|by omega).trans<|(iw _<|by omega).trans m;have bo:I (λk=>k=z (G a)\/k=z (G a)+1) W (cA (cA (cA (cA (cA (cA W (R (z<|G a) 0) aD) (R (z<|G a) 1)<|J F (y e) B) (R (z (G a)+1) 0) aD) (R (z (G a)+1) 1)<|J F (y e) B) (R (z (G a)+1) 2)<|J x v c2) (R (z (G a)+1) 3)<|J A w c3):=((((((I.refl _ W).setCell _ 0 _<|.inl<|.inl rfl).setCell _ 1 _<|.inl<|.inl rfl).setCell _ 0 _<|.inl<|.inr rfl).setCell _ 1 _<|.inl<|.inr rfl).setCell _ 2 _<|.inl<|.inr rfl).setCell _ 3 _<|.inl<|.inr rfl;have eg:=Fk (a':=aD) (b':=J F (y e) B) (c':=J x v c2) (d':=J A w c3) hx;generalize cA (cA (cA (cA (cA (cA W (R (z<|G a) 0) aD) (R (z<|G a) 1)<|J F (y e) B) (R (z (G a)+1) 0) aD) (R (z (G a)+1) 1)<|J F (y e) B) (R (z (G a)+1) 2)<|J x v c2) (R (z (G a)+1) 3) (J A w c3)=wf at*;have eq:∀k,(k=z (G a)\/k=z (G a)+1)->∃b,W.heap[k]?=H (ar b 102 (0,0)):=by
    grind
   refine⟨eg,bo.own bl<|λk o dv=>?_,?_,t.fD (t.fD X E cO) bo<|λk o=>bu k (by rcases o with dv|dv<;>omega),?_⟩
   .grind[fR,lL]
   .refine((ea.aw E).other bo<|λk o=>?_).base (by omega);grind
   .exact(((HW.mono (T:=t.F) cO).trans eb (λ_ h=>.inl h)).cr E).trans bo (λk o=>.inr (by rcases o with dv|dv<;>omega)))
  clear bl E Bp m hC;go_wp2;obtain⟨r1,r2,r3,r4,r5⟩:=cl _ rfl;refine cP (zG rfl _ _ (z (G a)+1) aD (J F (y e) B) (J x v c2) (J A w c3) _ _ rfl r1 ⟨_,_,_,rfl⟩ ⟨_,_,_,rfl⟩ ⟨_,_,_,rfl⟩ ⟨_,_,_,rfl⟩) rfl ?_;exact⟨F,y e,B,e,rfl,r2,dx,r3,r4,r5⟩
theorem nW{us ts:cf}(h:us.Sublist ts):(cg us).Sublist (cg ts):=by
 induction h with
 |slnil=>grind
 |cons x _ a=>rw[yS];grind
 |cons_cons x _ a=>rw[yS,yS];grind
def kp.sub(h:kp o)(a:i.Sublist o):kp i:=⟨λt b=>h.pure t<|a.subset b,h.mh.sub<|nW a,h.Dz.sublist<|a.map _⟩
def VR(j:iS a (bB b c (y i) g) i)(d:y i<=g)(f:l<=y i):iS a (J (if g=l then H (R b c)else H (R b<|c+l)) (y i-l)<|g-l) (i.drop l):=by
 by_cases h:g=l;(have e:y i=l:=by omega);rw[dz h,<-e,gh,Ab,show g-y i=0 by omega];exact j.empty c;rw[dr h];exact j.drop l f
def YC{w1:Y}{ta tbqq:cf}(a:M)(f:iS w1 d ta)(g:iS w1 u tbqq)(s:y ta+y tbqq<=10000000)(t:a<=z (G w1))(T:TypeId):cD bz 146 #[bB (z<|G w1) 0 2 2] ((cF w1<|ar #[d,u] T).drew) λq j=>∃e,q=aL e/\j.ownsRow a 142 1 e (y<|ta++tbqq) ((ta++tbqq).map bA.ptr)/\I az w1 j:=by
 have b:I az w1 ((cF w1<|ar #[d,u] T).drew):=(cK _ w1).of_heap rfl;have h:∀k v,(#[d,u]:Array aa)[k]?=H v->aO ((cF w1<|ar #[d,u] T).drew) (R (z<|G w1)<|0+k)=H v:=by simp_all
 have r:=tE (z<|G w1) 0 2 [(d,ta),(u,tbqq)] ((cF w1<|ar #[d,u] T).drew) ?_ (by simp) ?_ ?_ (by simp) (by simp[mf];omega);(have m:mf [(d,ta),(u,tbqq)]=y (ta++tbqq):=by simp[mf]);(have n:qn [(d,ta),(u,tbqq)]=(ta++tbqq).map bA.ptr:=by simp[qn]);rw[m,n]at r;apply r.mono;rintro q j⟨e,rfl,o,p⟩;exact⟨e,rfl,er o (by simp;omega),b.cr p⟩;grind
 .intro k i;match k,i with
  |0,_=>exact b.row f.row<|λl c=>⟨id,f.lt l c⟩
  |1,_=>exact b.row g.row<|λl c=>⟨id,g.lt l c⟩
 .intro k i l c;match k,i with
  |0,_=>have:=f.lt l c;simp;omega
  |1,_=>have:=g.lt l c;simp;omega
def YB(e b f:cf)(c:M)(t:Row a 1 d (y e) (e.map bA.ptr))(i:∀k,ct d=H k->k<z (G a))(v:Row a 1 u (y b) (b.map bA.ptr))(j:∀k,ct u=H k->k<z (G a))(w:Row a 1 N (y f) (f.map bA.ptr))(l:∀k,ct N=H k->k<z (G a))(D:y e+y b+y f<=10000000)(E:c<=z (G a))(T:TypeId):cD bz 146 #[bB (z<|G a) 0 3 3] (cF a<|ar #[d,u,N] T) λB p=>∃m,B=aL m/\p.ownsRow c 142 1 m (y<|e++b++f) ((e++b++f).map bA.ptr)/\I az a p:=by
 have h:I az a (cF a<|ar #[d,u,N] T):=(cK _ a);have n:∀q v,(#[d,u,N]:Array aa)[q]?=H v->aO (cF a<|ar #[d,u,N] T) (R (z<|G a)<|0+q)=H v:=by simp_all
 have C:=tE (z<|G a) 0 3 [(d,e),(u,b),(N,f)] (cF a<|ar #[d,u,N] T) ?_ (by simp) ?_ ?_ (by simp) (by simp[mf];omega);(have r:mf [(d,e),(u,b),(N,f)]=y (e++b++f):=by simp[mf]);(have s:qn [(d,e),(u,b),(N,f)]=(e++b++f).map bA.ptr:=by simp[qn]);rw[r,s]at C;apply C.mono;rintro B p⟨m,rfl,x,A⟩;exact⟨m,rfl,er x (by simp;omega),h.cr A⟩;grind
 .intro q o;match q,o with
  |0,_=>exact h.row t<|λk g=>⟨id,i k g⟩
  |1,_=>exact h.row v<|λk g=>⟨id,j k g⟩
  |2,_=>exact h.row w<|λk g=>⟨id,l k g⟩
 .intro q o k g;match q,o with
  |0,_=>have:=i k g;simp;omega
  |1,_=>have:=j k g;simp;omega
  |2,_=>have:=l k g;simp;omega
section
open Shelf
theorem TD{a d:iC}(h:y x=b*4)(i:c<=b)(j:y a=4)(k:y d=(b+1-c)*4+g):(((x.take (c*4)++d).take (c*4)++a++(x.take (c*4)++d).drop (c*4+y a)).take ((c+1)*4)++x.drop (c*4)++((x.take (c*4)++d).take (c*4)++a++(x.take (c*4)++d).drop (c*4+y a)).drop ((c+1)*4+y (x.drop<|c*4))).take ((b+1)*4)=x.take (c*4)++a++x.drop (c*4):=by
 have e:y (x.take<|c*4)=c*4:=by rw[dU];omega
 have f:(x.take (c*4)++d).take (c*4)=x.take (c*4):=oQ e;rw[f,oQ (by simp;omega),oQ (by simp;omega)]
def MU(e F n i:M)(A:Array aa)(d:iC)(ax:e<=z (G a))(hg:a.heap[F]?=H (ar A 180 (0,0)))(av:A.size=n*4)(t:A.toList.take (n*4)=d)(hv:ii a b w)(hi:i<n)(hn:n<=1000000000)(h1:∀al∈d,al.oneCell'=bU):cD bz 210 #[bB F 0 n n,ap i,bB b 0 1 1] a λca w'=>∃c,ca=aL (bB (z<|G a) 0 (n+1) c)/\w'.ownsRow e 180 4 (bB (z<|G a) 0 (n+1) c) (n+1) (d.take (i*4)++aF [w]++d.drop (i*4))/\I az a w':=by
 have X:y d=n*4:=by rw[<-t,dU,jy];omega
 have aq:=am hg;have bd:=am hv;obtain⟨i0,ba,bf,bh,ac⟩:=cH oh;have D:(prog.info? 180).map (·.size)=H 4:=by kernel_rfl
 have Q:(n:Z)+1-(i:Z)=((n+1-i:M):Z):=by omega
 have C:i+(n+1-i)=n+1:=by omega
 have x:(Builtin.firstCells i0.size i<|bB F 0 i n).run bz a.drew=.ok (d.take<|i*4).toArray a.drew:=by
  rw[bh];exact run_firstCells_some a.drew 4 i (R F 0) i n (d.take<|i*4) (by rw[dU];omega) (λbl al v=>by
   rw[du,dp];rw[oX]at v;split at v
   .have:=qo (w:=a.drew) hg t bl al 0 (by simpa using v);grind
   .cases v)
 have s:∀j,(Builtin.append_ #[97,3] j #[bB F 0 i n,ap<|(n:Z)+1-(i:Z)]).run bz a=.ok (bB (z<|G a) 0 (n+1)<|grownCap a (n+1) n 180) (cF a.drew<|ar ((d.take<|i*4).toArray++Builtin.zeroCells xe.cells (n+1-i)++Builtin.zeroCells xe.cells (grownCap a (n+1) n 180-(n+1))) 180):=λj=>by have h:=Lib.run_append_grow_zeros a 97 3 j 180 i0 _ .i64 .i64 underlying97 underlying3 ba bf (H<|R F 0) i n (d.take<|i*4) x (n+1-i) (by omega) (by omega) (by omega) (by omega) (by rw[ac];omega) (by rw[ac,C];exact sG (by omega)<|by omega);rw[C]at h;rw[Q];exact h
 obtain⟨c,hG⟩:∃c,c=grownCap a (n+1) n 180:=⟨_,rfl⟩;rw[<-hG]at s;have ao:n+1<=c:=by rw[hG];exact grownCap_ge a _ _ _
 have N:c<=maxLen:=by rw[hG];exact sH a (n+1) n _ (by unfold maxLen;omega)
 have bi:c<=9223372036854775807:=by unfold maxLen at N;omega
 obtain⟨zs,l⟩:∃zs:iC,zs=(Builtin.zeroCells xe.cells (n+1-i)++Builtin.zeroCells xe.cells (c-(n+1))).toList:=⟨_,rfl⟩;have bg:y zs=(n+1-i)*4+(c-(n+1))*4:=by rw[l];simp[Builtin.zeroCells,xe,Value.cells]
 have k:((d.take<|i*4).toArray++Builtin.zeroCells xe.cells (n+1-i)++Builtin.zeroCells xe.cells (c-(n+1)))=(d.take (i*4)++zs).toArray:=by rw[l,Array.append_assoc];grind
 rw[k]at s;have T:y (aF [w])=4:=rfl;have V:y (d.drop<|i*4)=(n-i)*4:=by rw[ja,X];omega
 obtain⟨f,p⟩:∃f,f=d.take (i*4)++zs:=⟨_,rfl⟩;obtain⟨g,q⟩:∃g,g=f.take (i*4)++aF [w]++f.drop (i*4+y (aF [w])):=⟨_,rfl⟩;obtain⟨m,r⟩:∃m,m=g.take ((i+1)*4)++d.drop (i*4)++g.drop ((i+1)*4+y (d.drop<|i*4)):=⟨_,rfl⟩;have bb:y f=c*4:=by rw[p,af,dU];omega
 have bc:y g=c*4:=by rw[q];simp only[af,dU,ja];omega
 have S:y m=c*4:=by rw[r];simp only[af,dU,ja];omega
 have u:m.take ((n+1)*4)=d.take (i*4)++aF [w]++d.drop (i*4):=by rw[r,q,p];grind[TD]
 rw[<-p]at s;have O:∀(W:Y),W.heap[z<|G a]?=H (ar f.toArray 180 (0,0))->W.heap[b]?=a.heap[b]?->∀j o,(Builtin.copy_ #[97,96] j #[bB (z<|G a) (i*4) (n+1-i) o,bB b 0 1 1]).run bz W=.ok (goInt<|Nat.min 1<|n+1-i) (W.setRow (z<|G a) g.toArray):=λW hW B j o=>by rw[q];refine rB W _ _ j 180 4 (z<|G a) (i*4) _ o (R b 0) _ 1 f.toArray _ (aF [w]) underlying97 D hW ?_ (λbl al v=>?_) (by simp;omega)<|BQ w;rw[T];simp only[Nat.min_def];split<;>omega;rw[du,bL<|B.trans hv,dp];simpa[aF,E.cells]using v
 have P:∀(W:Y),W.heap[z<|G a]?=H (ar g.toArray 180 (0,0))->W.heap[F]?=a.heap[F]?->∀j o sc,(Builtin.copy_ #[97,97] j #[bB (z<|G a) ((i+1)*4) (n-i) o,bB F (i*4) (n-i) sc]).run bz W=.ok (goInt<|Nat.min (n-i)<|n-i) (W.setRow (z<|G a) m.toArray):=λW hW B j o sc=>by rw[r];refine rB W _ _ j 180 4 (z<|G a) ((i+1)*4) _ o (R F<|i*4) _ sc g.toArray _ (d.drop<|i*4) underlying97 D hW ?_ (λbl al v=>by rw[du];exact qo (B.trans hg) t bl al _ v) (by simp;omega)<|λal hu=>h1 al<|dK hu;rw[V];grind
 have hA1:((cF a<|ar f.toArray 180).drew).heap[z<|G a]?=H (ar f.toArray 180 (0,0)):=aB (w:=a) _ rfl;have hA2:((cF a<|ar f.toArray 180).drew).heap[b]?=a.heap[b]?:=gl (w:=a) _ bd;have L:(((cF a<|ar f.toArray 180).drew.setRow (z<|G a) g.toArray).drew).heap[z<|G a]?=H (ar g.toArray 180 (0,0)):=tQ _ _ _ _ _ _ hA1;have an:(((cF a<|ar f.toArray 180).drew.setRow (z<|G a) g.toArray).drew).heap[F]?=a.heap[F]?:=(sh _ _ _ _<|by omega).trans<|gl (w:=a) _ aq;have K:=U (show((((cF a<|ar f.toArray 180).drew.setRow (z<|G a) g.toArray).drew).setRow (z<|G a) m.toArray).ownsRow e 180 4 (bB (z<|G a) 0 (n+1) c) (n+1) (d.take (i*4)++aF [w]++d.drop (i*4))/\I az a ((((cF a<|ar f.toArray 180).drew.setRow (z<|G a) g.toArray).drew).setRow (z<|G a) m.toArray)from by refine⟨⟨by grind,.inr ⟨z<|G a,c,m.toArray,rfl,ax,tQ _ _ _ _ _ _ L,ao,N,by simpa using S,u⟩⟩,?_⟩;have t1:I az a (cF a<|ar f.toArray 180).drew:=(cK az a).of_heap rfl;have t2:I az a ((cF a<|ar f.toArray 180).drew.setRow (z<|G a) g.toArray).drew:=(t1.trans (CD _ (z<|G a) g.toArray)<|λk b=>.inr<|by omega).of_heap rfl;exact t2.trans (CD _ (z<|G a) m.toArray)<|λk b=>.inr<|by omega);have au:=λj o=>O _ hA1 hA2 j o;have bT:¬((i:Z)=(n:Z)):=by omega
 have bu:IntKind.i64.wrap ((i:Z)+1)=(i:Z)+1:=by rw[bw];omega
 have bv:IntKind.i64.wrap ((n:Z)+1)=(n:Z)+1:=by rw[bw];omega
 have bx:IntKind.i64.wrap ((n:Z)+1-(i:Z))=(n:Z)+1-(i:Z):=by rw[bw];omega
 have bt:((i:Z)+1).toNat=i+1:=by omega
 have bk:((n:Z)+1).toNat=n+1:=by omega
 have bo:(0:Z)<=(i:Z)+1:=by omega
 have bs:i<=n:=by omega
 have bp:(i:Z)<=(n:Z)+1:=by omega
 have bq:(n:Z)<(n:Z)+1:=by omega
 have bm:¬(c=i):=by omega
 have bn:¬(c=i+1):=by omega
 have br:¬(n=i):=by omega
 have ad:prog.follows .mixedOrders=bU:=by kernel_rfl
 clear p q r bb bc S u T V bg k l hG C Q x X t h1 av D hv hg;go_in
 go_wp2_with(at_builtin;refine Lib.wpList_append_run _ rfl _ _ _ _ rfl _ _ rfl rfl _ _ (s _) ?_)
 go_region_law_o (refine zh rfl _ _ 97 97 rfl (bB (z<|G a) ((i+1)*4) (n-i)<|c-(i+1)) (bB F (i*4) (n-i)<|n-i) (by simp[Act.eval,Act.put]) (by simp[Act.eval,Act.put]) (P _ L an 3 _ _) ?_)
 go_wp2;go_ret;exact⟨c,rfl,K⟩
def PG{w:Y}{baseqq:M}{v:aa}{n:M}(t:M){xs:iC}{x:E}{vb:M}(q:w.ownsRow baseqq 180 4 v n xs)(B:baseqq<=z (G w))(r:ii w vb x)(p:ct v≠H vb)(O:t<=n)(o:n<=1000000000)(A:∀P∈xs,P.oneCell'=bU):cD bz 210 #[v,ap t,bB vb 0 1 1] w λu i=>∃d,u=aL d/\i.ownsRow baseqq 180 4 d (n+1) (xs.take (t*4)++aF [x]++xs.drop (t*4))/\I (λK=>ct v=H K) w i/\(ct d=ct v\/∃N,ct d=H N/\z (G w)<=N):=by
 have s:=q.1;by_cases k:t=n;subst k;apply(PF q B r o).mono;rintro u i⟨d,rfl,f,c⟩;refine⟨d,rfl,?_,I.dJ c.grown<|λK l=>.inl l,c.ur⟩;rw[<-s,aX,gh,ee];exact f;rcases q.2 with⟨rfl,rfl⟩|⟨L,a,e,rfl,j,C,F,m,g,h⟩;omega;by_cases b:n+1<=a;refine(JW baseqq L a n t e xs j C b (by unfold maxLen at m;omega) g h r (λu=>p (by rw[u];rfl)) (by omega) o A).mono ?_;rintro u i⟨rfl,f,c⟩;exact⟨_,rfl,f,c.mono<|λK l=>.inl (by rw[l];rfl),.inl rfl⟩;(obtain rfl:a=n:=by omega);apply(MU baseqq L a t e xs B C g h r (by omega) o A).mono;rintro u i⟨D,rfl,f,c⟩;exact⟨_,rfl,f,c.mono cO,.inr ⟨_,rfl,ai _⟩⟩
end
section
open Shelf
attribute [local go_sem] Oper.semAt_some
def QV:(prog.info? 98).map (λi=>(i.zero,i.size,i.bytes))=H (H<|aJ 0,1,8):=by kernel_rfl
structure NK(w:Y)(bm:M)(pre:eO)(B:fA)(W:Y):Prop where
 ex:∃pv,ep W (z<|G w) pv 131/\W.ownsRow (z (G w)+1) 98 1 pv (y pre) (pre.map<|Value.int .u64)/\∀k,B k↔k=z (G w)\/ct pv=H k
 aw:I (λk=>k=bm) w W
def NK.lt(i:NK a c p X C):∀k,X k->z (G a)<=k/\k<z (G C):=by
 obtain⟨l,j,d,e⟩:=i.ex;intro k g;rcases(e k).1 g with rfl|h;grind
 have:=aG d k h;omega
def NK.stays{T:fA}(m:NK a b p X f)(g:I T f C)(d:∀k,T k->¬X k/\(k=b\/z (G a)<=k)):NK a b p X C:=by
 obtain⟨l,i,j,c⟩:=m.ex;exact⟨⟨l,i.aw g<|λh=>(d _ h).1<|(c _).2<|.inl rfl,g.own j<|λk e h=>(d k h).1<|(c k).2<|.inr e,c⟩,m.aw.trans g<|λk e=>(d k e).2⟩
def GQ(bg:fM)(hb:ep a b (.map<|H c) 103)(hm:jw a c bg)(ba:xA bg p)(hl:y p<=1000000):cD bz 218 #[aD,.func (.func 157) #[] #[ay b]] a λbr w'=>
 ∃c,∃an:eO,br=aL c/\an.Perm p/\w'.ownsRow (z<|G a) 98 1 c (y an) (an.map<|Value.int .u64)/\I (λk=>k=b) a w':=by
 obtain⟨i0,av,bb,bc,bd⟩:=cH QV
 have bi:=am hb
 have T:=hm.lt
 refine(dh (n:=3)).1 ?_
 refine callsIn_of_wp_marks func218 rfl trivial ?_ rfl
 simp only[ntmps218,eU,aS,dH,Nat.reduceAdd,Nat.reduceSub,dR,dQ,eV,eD,cU,cL]
 gi_wp2
 obtain⟨D,r⟩:∃D,cF a (ar #[aD] 131)=D:=⟨_,rfl⟩
 have bm:z (G D)=z (G a)+1:=by rw[<-r];simp
 have B:I az a D:=by rw[<-r];exact(cK az a)
 have hA0:NK a b [] (λk=>k=z (G a)) D:=⟨⟨aD,by rw[<-r];exact aB _ rfl,bK _ _ _ _,λk=>by simp[ct]⟩,B.mono cO⟩
 rw[r]
 refine xx (m:=3) (arg:=YJ) (V:=AY) (n0:=z<|G a) (gf:=157) (lb:=#[ay b]) (pp:=λan=>∃bq,(an++bq).Perm p) (ff:=λan=>an.Perm p) (S:=λk=>k=b) (λ_ h=>.inr<|.inr h) ?geval (enters_of func157 (by kernel_rfl) rfl) (λ_=>rfl) (Ja (z<|G a) 2 b c bg p D (hb.aw B id) (hm.di<|B.block _ T id) ba T<|by omega) trivial (by omega) (λk e=>by omega) (λd L al=>NK a b d L al) (λ_ _ _ _=>False) _ hA0 (λk e s=>by omega) (λd L al j=>j.lt) ?st (λ_ _ _ _ _ _ h=>h.elim) ?body ?done ?stop
 case geval=>rfl
 case st=>
  intro d L al i bp j g f;refine j.stays g<|λk e=>⟨(f k e).1,?_⟩;rcases(f k e).2 with s|s|s
  .exact .inl s
  .exact s.elim
  grind
 case stop=>
  grind
 case body=>
  rintro lr d bf L al bk au X⟨bq,u⟩j _;have bl:y d+1<=1000000:=by have:=u.length_eq;grind
  unfold YJ;simp only;have HA:=U j;clear j u;gi_wp2;refine⟨I.refl _ _,λE g=>?_⟩;have hA2:=HA.stays g (λk e=>by grind);obtain⟨pv,C,w,Q⟩:=hA2.ex;obtain⟨K,F,x⟩:=aA w;have z0:=C.cell;have bn:=am C;have W:lr<z (G E):=ag X g.size;have bh:=g.size;obtain⟨HV,P,N,ao,aq⟩:=je C w Q g hA2.aw;clear C w Q g hA2;subst x;have HX:=U (show∀(l:aa)(o:Y),o.ownsRow (z (G a)+1) 98 1 l (y d+1) (d.map (Value.int .u64)++[aJ bf])->eL (cF E<|ar #[aJ bf] 98) o (J K (y d) F) l->(aO o (R (z<|G a) 0)=H (J K (y d) F)/\o.frozen? (R (z<|G a) 0)=aY)/\BM AY (λd L al=>NK a b d L al) (λ_ _ _ _=>False) (d++[bf]) L al E lr .normal ⟨#[],[]⟩ (cA o (R (z<|G a) 0) l)fromλl o f i=>by
   have ac:=(I.refl az E).alloc<|ar #[aJ bf] 98;have ad:=I.eT i;have ax:¬(ct (J K (y d) F)=H (z<|G a)):=λs=>by have:=(P.lt _ s).1;omega
   have v:ep o (z<|G a) (J K (y d) F) 131:=(HV.aw ac id).aw ad ax;have A:I L E (cA o (R (z<|G a) 0) l):=((ac.mono (T:=L) cO).trans (ad.mono (T:=L)<|λk e=>.inl<|(N k).2<|.inr e)<|λk e=>.inl e).setCell _ 0 _<|.inl<|(N _).2<|.inl rfl;refine⟨⟨v.cell,v.free⟩,trivial,λk=>k=z (G a)\/ct l=H k,⟨⟨l,v.set l,?_,λk=>rA⟩,aq.trans A<|λk e=>.inr (by rcases(N k).1 e with s|s;omega;have:=(P.lt _ s).1;omega)⟩,(ao.mono<|λk e=>.inl<|.inr e).trans A<|λk e=>.inl<|.inl e,A.block lr W au,λk e=>?_⟩
   .rw[af,aQ];exact(rH _ _ 0 _).own f (λk e s=>by have:=(aG f k e).1;omega)
   .rcases e with s|s
    .exact .inl<|(N k).2<|.inl s
    .rcases i.ur with q|⟨bo,q,hy⟩
     .exact .inl<|(N k).2<|.inr<|q▸s
     .rw[q]at s;cases s;exact .inr (by simp at hy;omega))
  gi_wp2_with(first
   |(gi_at_builtin;refine dV _ rfl (.tmp 8) (.tmp 10) 131 rfl (z (G a)+1) 98 i0 (.int .u64 0) 1 8 underlying131 av bb bc bd rfl (by decide) (.slice K (y d) F) (y d) (d.map (Value.int .u64)) rfl (aN P _) (R (z (G E)) 0) 1 1 [.int .u64 bf] rfl rfl (pT _ _ _) (by simp[Value.oneCell']) (by omega) (by omega) (by simp;omega) ?_;intro l o f i;obtain⟨⟨y0,y1⟩,t⟩:=HX l o f i;obtain⟨x6,c6,rfl⟩:=aA f;have O:=U t;clear f i t))
  exact O
 case done=>
  intro an u L al f E j l _ t;obtain⟨pv,C,w,Q⟩:=j.ex;obtain⟨K,F,x⟩:=aA w;have z0:=C.cell;have o:ct pv≠H u:=λq=>l<|(Q u).2<|.inr q;obtain⟨P,v,A,i⟩:=gH w t j.aw f;have N:=am t;clear j C w Q t f;subst x;gi_wp2;have g:=gG al u<|.deferred none;refine⟨by simp,.inl ⟨_,_,rfl,run_takeDeferred v,?_⟩⟩;refine⟨_,gm rfl _ _ _,?_⟩;exact⟨_,an,rfl,i,er (g.own P<|λk e q=>o (by rw[<-q];exact e)) (by omega),A.trans g<|λk e=>.inr (by subst e;omega)⟩
def Kp(m:fM)(n:ep a b (.map<|H c) 103)(q:jw a c m)(f:xA m p)(o:y p<=1000000):cD bz 155 #[.func (.func 157) #[] #[ay b]] a λr k=>
 ∃g,∃l:eO,r=aL g/\l.Perm p/\k.ownsRow (z<|G a) 98 1 g (y l) (l.map<|Value.int .u64)/\I (λd=>d=b) a k:=by
 have h:=GQ m n q f o
 go_in
 go_wp2_with fail
 apply h.mono
 rintro r u⟨g,l,rfl,i,e,j⟩
 obtain⟨t,s,rfl⟩:=aA e
 have d:=U<|And.intro i (And.intro e j)
 clear i e j
 go_wp2
 go_ret
 exact⟨_,l,rfl,d.1,d.2.1,d.2.2⟩
end
def IZ{l m:cJ}(h:b<y m):fH l (m.take<|b+1)=lG (fH l<|m.take b) m[b]:=by
 unfold fH;rw[ah h,iL];rfl
def Rv(l:cJ)(e:E):y (lG l e)<=y l+1:=by
 have:∀l:cJ,y (l.filter<|λx=>ahead x e)+y (l.filter<|λx=>ahead e x)<=y l:=by
  intro l;induction l with
  |nil=>simp
  |cons x r a=>
   grind[filter_cons_of_pos,filter_cons_of_neg,lK,length_cons]
 have:=this l;unfold lG;grind
def xy(l m:cJ):y (fH l m)<=y l+y m:=by
 unfold fH;induction m generalizing l with
 |nil=>simp
 |cons e r a=>
  have b:=a<|lG l e;have c:=Rv l e;grind
def dM.fH(h:dM e)(m:cJ):dM (fH e m):=by
 induction m generalizing e with
 |nil=>exact h
 |cons b r a=>exact a<|h.lG b
theorem WK(l:cJ)(p:M)(x:E)(h:p<y l):((((aF l).set (p*4)<|aj x.key).set (p*4+1)<|aj x.val).set (p*4+2)<|aK x.del).set (p*4+3) (aJ x.bP)=aF (l.set p x):=by
 induction l generalizing p with
 |nil=>simp at h
 |cons a r c=>
  have e:∀(a:E)(r:cJ),aF (a::r)=aj a.key::aj a.val::aK a.del::aJ a.bP::aF r:=λa r=>by simp[aF,E.cells]
  cases p with
  |zero=>rw[dC,e,e];simp
  |succ p=>
   have b:p<y r:=by simpa using h
   rw[dl,e,e,<-c p b];rw[show(p+1)*4=p*4+1+1+1+1 by omega];simp_all
def Vt(x:E)(n:a.ownsRow b 180 4 (bB c 0 (y e) g) (y e) (aF e))(s:l<y e):(cA (cA (cA (cA a (R c<|l*4)<|aj x.key) (R c<|l*4+1)<|aj x.val) (R c<|l*4+2)<|aK x.del) (R c<|l*4+3)<|aJ x.bP).ownsRow b 180 4 (bB c 0 (y e) g) (y<|e.set l x) (aF<|e.set l x):=by
 refine⟨fP _,.inr ?_⟩;rcases n.2 with⟨f,r⟩|⟨q,k,p,f,i,m,d,j,h,o⟩;cases f;cases f;refine⟨c,g,_,by rw[eS],i,aT<|aT<|aT<|aT m,by rw[eS];exact d,j,by simpa using h,?_⟩;grind[Array.toList_setIfInBounds,take_set,length_set,WK]
def Tt(h:e.take b++w::e.drop b=L)(c:b<=y e):(aF e).take (b*4)++aF [w]++(aF e).drop (b*4)=aF L:=by
 rw[<-h,fQ,show w::e.drop b=[w]++e.drop b from rfl,fQ,bD];have a:=bX aF<|bN b e;rw[fQ]at a;grind[fP,length_take,take_left',drop_left']
def Yo(h:e.take b++w::e.drop b=L)(a:b<=y e):y L=y e+1:=by
 rw[<-h,af,aS,dU,ja];omega
def UA(h:kr a d e)(hm:kr a u L)(hs:dM e)(hl:y e+y L<=100000000)(br:∀k,ct d=H k->k<z (G a))(bo:∀k,ct u=H k->k<z (G a)):cD bz 149 #[d,u] a λbs w'=>∃v',bs=aL v'/\w'.ownsRow (z<|G a) 180 4 v' (y<|fH e L) (aF<|fH e L)/\I az a w':=by
 have bi:=Qo h (by omega) br;obtain⟨mx,mc,ch⟩:=bM hm;obtain⟨vx,vc,cq⟩:=bM h;obtain⟨HM,bv,HS⟩:=dA hm bo hs;clear h br hm bo hs;subst ch;subst cq;go_in
 go_wp2_with fail
 apply bi.mono;rintro bs w1⟨v1,rfl,an,bg⟩;obtain⟨x1,c1,co⟩:=aA an;subst co;have bx:=U an;have ca:=U<|I.aR (S:=az) bg;clear an bg bi;go_wp2_with fail
 go_loopw [5,13] (λo i wr=>∃(k:M),k<=y L/\i=ap k/\wr.ownsRow (z<|G a) 180 4 o (y<|fH e<|L.take k) (aF<|fH e<|L.take k)/\I az a wr) (λ_ i _=>y L-(intOf i).toNat)
 case atStart=>exact⟨0,bj _,rfl,bx,ca⟩
 (case round=>obtain⟨k,hk,rfl,ho,P⟩:=hrel;obtain⟨nx,nc,cj⟩:=aA ho;subst cj;by_cases O:k<y L;(·(have e1:(k:Z)<(y L:Z):=by omega);have F:=IZ (l:=e) O;have aq:dM (fH e<|L.take k):=HS.fH _;(have ce:y (fH e<|L.take k)<=100000000:=by have:=xy e<|L.take k;have:=ou k L;omega);generalize fH e (L.take k)=b at ho F aq ce|-;obtain⟨cc,⟨bp,cx⟩|⟨bt,i,cv,bp,cd,hc⟩⟩:=ae HM;exfalso;omega;cases bp;have B:bt<z (G a):=bv bt rfl;have r:=eE L k O;have cB:bt<z (G wr):=ag B P.size;have ck:aO wr (R bt<|i+k*4)=H (aj L[k].key):=P.cell (hc _ _ r.1) id B;have cl:aO wr (R bt<|i+k*4+1)=H (aj L[k].val):=P.cell (by rw[aV];grind) id B;have cm:aO wr (R bt<|i+k*4+2)=H (aK L[k].del):=P.cell (by rw[aV];grind) id B;have cn:aO wr (R bt<|i+k*4+3)=H (aJ L[k].bP):=P.cell (by rw[aV];grind) id B;obtain⟨T,N,W,HT⟩:=gH F aq ho P;clear r hc cc cd F aq ho P;generalize L[k]=cE at*;obtain⟨f,t,s,g⟩:=cE;simp only at ck cl cm cn;have K:I az wr (cF wr<|ar #[aj f,aj t,aK s,aJ g] 180):=(cK _ _);have x:=BN (J nx (y b) nc) f g (cF wr<|ar #[aj f,aj t,aK s,aJ g] 180) (da<|K.own W<|λ_ _ an=>an) N (by omega) (λbt a=>by have:=(W.lt bt a).2;simp;omega);have D:=JA b ⟨f,⟨#[]⟩,aY,g⟩;by_cases ad:∃h:lA b ⟨f,⟨#[]⟩,aY,g⟩<y b,b[lA b ⟨f,⟨#[]⟩,aY,g⟩].key=f/\b[lA b ⟨f,⟨#[]⟩,aY,g⟩].bP=g;(.obtain⟨al,ac,V⟩:=ad;have Q:=Ru N ⟨f,t,s,g⟩ al ac V;have av:=U<|show b.set (lA b ⟨f,⟨#[]⟩,aY,g⟩) ⟨f,t,s,g⟩=lG b ⟨f,t,s,g⟩from Q;clear Q;generalize lA b ⟨f,⟨#[]⟩,aY,g⟩=p at*;(have e2:(p:Z)<(y b:Z):=by omega);(have e3:(0:Z)<=(p:Z):=by omega);(go_wp2_with fail);apply x.mono;rintro bs c⟨rfl,A⟩;have j:ii c (z<|G wr) ⟨f,t,s,g⟩:=(A.block _<|by simp).trans<|aB _ rfl;have m:I az wr c:=K.cr<|I.aR (S:=az) A;have l:=m.own W<|λ_ _ an=>an;obtain⟨q0,q1,q2,q3⟩:=j.cells;have C:=am j;simp only at q0 q1 q2 q3;have bm:∀w,ct (J nx (y b) nc)=H w->w<z (G wr):=λw r=>(W.lt w r).2;rcases l.2 with⟨h2,h0⟩|⟨w,ba,cu,h2,bl,r,bn,bq,bk,o⟩;exfalso;omega;cases h2;(have cb:w≠z (G wr):=λbs=>by have:=bm w rfl;omega);have bh:=eE b p al;(have r0:aO c (R w<|p*4)=H (aj b[p].key):=by simpa using qo r o _ _ 0 (by simp_all));(have r1:aO c (R w<|p*4+1)=H (aj b[p].val):=by simpa using qo r o _ _ 0 (by simp_all));(have r2:aO c (R w<|p*4+2)=H (aK b[p].del):=by simpa using qo r o _ _ 0 (by simp_all));(have r3:aO c (R w<|p*4+3)=H (aJ b[p].bP):=by simpa using qo r o _ _ 0 (by simp_all));(have f0:∀j,c.frozen? (R w j)=aY:=λj=>by simp[World.frozen?,r]);have bb:=f0<|p*4;have bc:=f0<|p*4+1;have bd:=f0<|p*4+2;have bf:=f0<|p*4+3;obtain⟨ao,ax,bu,HG⟩:=gH l m j r;clear bm bh f0 l m j r bk o bq bl x K;generalize z (G wr)=eb at*;generalize b[p]=v at*;obtain⟨yk,yv,yd,yb⟩:=v;simp only at r0 r1 r2 r3 ac V;subst ac;subst V;go_wp2;(go_quiet(fail));have hd:I az c (c.drewN nq):=I.aR<|below_drewN (Below.refl _ _) _;have au:=U<|hd.own ao<|λ_ _ an=>an;have X:=U<|(HT.cr ax).cr hd;have cp:eb<z (G<|c.drewN nq):=C;(replace r0:aO (c.drewN nq) (R w<|p*4)=_:=r0);(replace r1:aO (c.drewN nq) (R w<|p*4+1)=_:=r1);(replace r2:aO (c.drewN nq) (R w<|p*4+2)=_:=r2);(replace r3:aO (c.drewN nq) (R w<|p*4+3)=_:=r3);(replace q0:aO (c.drewN nq) (R eb 0)=_:=q0);(replace q1:aO (c.drewN nq) (R eb 1)=_:=q1);(replace q2:aO (c.drewN nq) (R eb 2)=_:=q2);(replace q3:aO (c.drewN nq) (R eb 3)=_:=q3);(replace bb:(c.drewN nq).frozen? (R w<|p*4)=_:=bb);(replace bc:(c.drewN nq).frozen? (R w<|p*4+1)=_:=bc);(replace bd:(c.drewN nq).frozen? (R w<|p*4+2)=_:=bd);(replace bf:(c.drewN nq).frozen? (R w<|p*4+3)=_:=bf);clear hd bu HG ao ax C;generalize c.drewN nq=w3 at*;go_wp2;(have bT:∀k,k=w->z (G a)<=k:=λk hk=>by rw[hk];exact(au.lt w rfl).1);refine⟨⟨k+1,O,by go_num,?_,?_⟩,by simp[intOf];omega⟩;rw[ae T,<-ae av];exact Vt ⟨yk,t,s,yb⟩ au al;refine(((X.setCell _ _ _ ?_).setCell _ _ _ ?_).setCell _ _ _ ?_).setCell _ _ _ ?_<;>exact .inr<|bT w rfl);(.have V:=Rw N ⟨f,t,s,g⟩<|N.ZT ⟨f,t,s,g⟩<|λa bs=>ad ⟨a,bs⟩;have Q:=U<|show b.take (lA b ⟨f,⟨#[]⟩,aY,g⟩)++⟨f,t,s,g⟩::b.drop (lA b ⟨f,⟨#[]⟩,aY,g⟩)=lG b ⟨f,t,s,g⟩from V;clear V;generalize lA b ⟨f,⟨#[]⟩,aY,g⟩=p at*;(go_wp2_with fail);apply x.mono;rintro bs c⟨rfl,A⟩;have j:ii c (z<|G wr) ⟨f,t,s,g⟩:=(A.block _<|by simp).trans<|aB _ rfl;have m:I az wr c:=K.cr<|I.aR (S:=az) A;have l:=m.own W<|λ_ _ an=>an;obtain⟨q0,q1,q2,q3⟩:=j.cells;have C:=am j;simp only at q0 q1 q2 q3;have cs:=HT.size;have bf:=m.size;have bm:=U (λ(q:M)=>show _/\_/\_ from have au:I az c (cF (c.drewN q)<|ar #[aj f,aj t,aK s,aJ g] 180):=(I.aR (S:=az)<|below_drewN (Below.refl _ c) q).alloc _;have bc:=au.own l<|λ_ _ an=>an;⟨PG (w:=(cF (c.drewN q)<|ar #[aj f,aj t,aK s,aJ g] 180)) (baseqq:=z<|G a) (v:=(J nx (y b) nc)) (n:=y b) p (xs:=(aF b)) (x:=⟨f,t,s,g⟩) (vb:=z<|G c) bc (by have:=au.size;omega) (aB _ rfl) (λbs=>by have:=(l.lt _ bs).2;omega) D (by omega)<|Vy b,(HT.cr m).cr au,λk hk=>(bc.lt k hk).1⟩);(have ac:(∃w,nx=H (R w 0)/\∃v:E,p<y b/\aO c (R w<|p*4)=H (aj v.key)/\aO c (R w<|p*4+3)=H (aJ v.bP)/\(v.key≠f\/(v.key=f/\v.bP≠g)))\/((p:Z)<(y b:Z))=False:=by by_cases ao:p<y b;left;rcases l.2 with⟨h2,h0⟩|⟨w,ba,cu,h2,bl,r,bn,bq,bk,o⟩;omega;cases h2;have bh:=eE b p ao;refine⟨w,rfl,b[p],ao,by simpa using qo r o _ _ 0 (by simp_all),by simpa using qo r o _ _ 0 (by simp_all),?_⟩;by_cases hk:b[p].key=f;simp_all;simp_all;simp_all);clear j m l A x K cs bf ad;generalize z (G wr)=eb at*;rcases ac with⟨w,rfl,⟨yk,yv,yd,yb⟩,ao,r0,r3,hy|⟨rfl,hy⟩⟩|e2;(case' inl.inl=>simp only at r0 r3 hy;(have e2:(p:Z)<(y b:Z):=by omega);(have e3:(0:Z)<=(p:Z):=by omega);have e4:=Jg hy);(case' inl.inr=>simp only at r0 r3 hy;(have e2:(p:Z)<(y b:Z):=by omega);(have e3:(0:Z)<=(p:Z):=by omega);have e4:(yb==g)=aY:=by simpa using hy);(all_goals(go_wp2_with fail);(go_quiet(fail));obtain⟨bb,ax,av⟩:=bm nq;have X:=U ax;have bu:=U av;clear ax av;(go_wp2_with fail);apply bb.mono;rintro bs w4⟨v4,rfl,al,bd,_⟩;obtain⟨x4,c4,cp⟩:=aA al;subst cp;have bT:=U al;have cb:=U bd;clear al bd bb;go_wp2;refine⟨⟨k+1,O,by go_num,?_,?_⟩,by simp[intOf];omega⟩;rw[ae T,Yo (ae Q) D,<-Tt (ae Q) D];exact bT;exact X.trans cb<|λk hk=>.inr<|bu k hk)));(have e1:¬(k:Z)<(y L:Z):=by omega);(have b:k=y L:=by omega);obtain⟨c,W,HT⟩:=dA (show fH e L=fH e (L.take k)by rw[b,aX]) ho P;clear ho P b;go_wp2;go_ret;exact⟨_,rfl,by rw[ae c];exact W,HT⟩)
def DB.aw{w w':Y}{d:cw (aa×cf)}{S:fA}(h:DB w c g d)(j:I S w w')(l:¬S c)(m:∀i(a:i<y d),∀k,ct d[i].1=H k->¬S k):DB w' c g d:=⟨h.len,λi a=>j.cell (h.cell i a) l h.lt,λi a=>j.row (h.row i a)<|λk e=>⟨m i a k e,h.pS i a k e⟩,λi a k e=>ag (h.pS i a k e) j.size,h.small⟩
def pH{e:Addr}(n:a.ownsRow b c 1 (J (H e) g l) g x):∀k u,x[k]?=H u->aO a (e.add k)=H u:=by
 intro k u i;obtain⟨o,⟨d,_⟩|⟨t,m,f,d,p,h,r,q,s,j⟩⟩:=n;cases d;cases d;rw[du,bL h,dp];rw[<-j,oX]at i;grind
def xF(a:aa)(b c d e:aa×cf):iC:=.iface 97 a::pE b c d e
def Ew(r s t u:aa×cf)(h:bJ a c n m)(g:Option Addr)(f e:M)(N:n.memory=J g f e)(hl:DB a c 10 [r,s,t,u]):cD bz 98 #[ay c] a λbb w'=>∃v',bb=aL v'/\w'.ownsRow (z<|G a) 254 1 v' (y (pE r s t u)+1) (xF n.memory r s t u)/\I az a w':=by
 obtain⟨i0,ac,al,an,ao⟩:=cH JY;have A:=bJ.cellAt h 7 rfl;have p:=am h;have o:=U<|λW(Q:I az a W)=>Pt (w:=W) (lb:=c) (lo:=10) r s t u<|hl.aw Q id<|λ_ _ _ _=>id;have L:y (pE r s t u)<=100000003/\1<=y (pE r s t u):=by have:=hl.small;simp[pE,mf]at this|-;omega
 have O:∀l∈pE r s t u,l.oneCell'=bU:=by intro l d;simp only[pE,aE,qT,bW,cX]at d;rcases d with((⟨q,_,rfl⟩|rfl)|rfl)|rfl<;>rfl
 obtain⟨aq,hn⟩:∃aq,y (pE r s t u)=aq:=⟨_,rfl⟩;rw[hn]at L;unfold xF;rw[N]at A|-;generalize bc:pE r s t u=VS at*;clear h hl N;go_in
 go_wp2_with fail
 rename_i QQ KK F;refine cI (λx=>aO x (R c 7)=H (J g f e)) 11 (by kernel_rfl) ?_;have D:aO a.drew (R c 7)=H (J g f e):=A;refine cY 0 ?_;iterate 5 (refine eM (v:=?_) D rfl (by kernel_rfl) iW rfl ?_ ?_;rotate_left;(focus(intro x hX;go_simp;try rfl));simp only[Act.put,dD,Nat.reduceAdd])
 apply eC;refine cY 6 ?_;iterate 3 (refine eM (v:=?_) D rfl (by kernel_rfl) iW rfl ?_ ?_;rotate_left;(focus(intro x hX;go_simp;try rfl));simp only[Act.put,dD,Nat.reduceAdd])
 apply eC;have w:∀(W:Y)(b:M),W.heap[b]?=H (ar #[.iface 97<|J g f e] 254 (0,0))->z (G a)<=b->W.ownsRow (z<|G a) 254 1 (bB b 0 1 1) 1 [.iface 97<|J g f e]:=by intro W b hb d;exact⟨rfl,.inr ⟨b,1,#[.iface 97<|J g f e],rfl,d,hb,ai _,by unfold maxLen;omega,rfl,rfl⟩⟩
 refine ua (α:=M×aa) (λT W=>I az a W/\W.heap[T.1]?=H (ar #[.iface 97<|J g f e] 254 (0,0))/\z (G a)<=T.1/\W.ownsRow (z<|G a) 254 1 T.2 aq VS/\ct T.2≠H T.1) (λT=>{tmps:=#[ay c,ix,aD,ay c,ay c,fj<|H<|R c 7,J g f e,.iface 97<|J g f e,bB T.1 0 1 1,ay c,ay c,fj<|H<|R c 10,T.2,ix],defers:=[]}) #[true,true,true,true,true,true,true,true,true,true,false,false] 2 ?_ ?_;(.intro P;refine sQ (i:=5) (j:=9) rfl rfl rfl rfl (by kernel_rfl) ?_ ?_;(.intro au X;go_simp;have B:I az a (cF a<|ar #[.iface 97<|J g f e] 254).drew:=(cK az a).of_heap rfl;have K:(cF a<|ar #[.iface 97<|J g f e] 254).drew.heap[z<|G a]?=H (ar #[.iface 97<|J g f e] 254 (0,0)):=aB (w:=a) _ rfl;refine X _ _ (λ_=>B.cell A id p) ?_;refine aM (i:=9) rfl rfl (by kernel_rfl) ?_;intro K2 k;go_simp;apply(o _ B).mono;rintro bb S⟨v1,rfl,d,q⟩;have V:=(q.block _ (am K) id).trans K;have l:=B.cr q;refine k _ _ (λ_=>l.cell A id p) ?_;have ad:=λm a=>(d.lt m a).1;simp at ad;refine kj (P (z<|G a,v1) S ⟨l,V,ai _,?_,?_⟩) (by kernel_rfl);rw[hn]at d;obtain⟨q1,⟨q2,q0⟩|⟨bf,cp,E,q2,qb,C⟩⟩:=d;(grind);exact⟨q1,.inr ⟨bf,cp,E,q2,by grind,C⟩⟩;grind);intro au X;go_simp;apply(o _<|ci _ a).mono;rintro bb S⟨v1,rfl,d,q⟩;have l:I az a S:=(ci az a).cr q;refine X _ _ (λ_=>l.cell A id p) ?_;refine aM (i:=5) rfl rfl (by kernel_rfl) ?_;intro K2 k;go_simp;have B:=l.alloc<|ar #[.iface 97<|J g f e] 254;refine k _ _ (λ_=>B.cell A id p) ?_;refine kj (P (z<|G S,v1) _ ⟨B,aB _ rfl,l.size,?_,?_⟩) (by kernel_rfl);rw[hn]at d;exact aN d _;intro ax;have:=(d.lt _ ax).2;omega);rintro⟨b,au⟩W⟨Q,hb,ad,P,bd⟩;have C:=w W b hb ad;(obtain⟨av,d,rfl⟩:∃a ax,au=J (H a) aq ax:=by rcases P.2 with⟨_,h0⟩|⟨bf,ba,E,h2,_⟩;omega;grind);refine aM (i:=10) rfl rfl (by kernel_rfl) ?_;intro K2 k;simp only[cy,bF,bQ];refine kH (.tmp 8) (.tmp 12) 192 rfl (z<|G a) 254 i0 .nilIface 1 16 underlying192 ac al an ao rfl (by decide) (bB b 0 1 1) 1 [.iface 97<|J g f e] rfl C av aq d VS rfl P.1 ?_ O (by omega) (by omega) Q.size ?_;exact pH P;intro v3 w3 q K;obtain⟨x3,c3,X⟩:=aA q;subst X;have l:I az a w3:=Q.trans (fm K.grown) (by grind);refine k _ _ (λ_=>l.cell A id p) ?_;simp only[Act.put,dD];refine aM (i:=11) rfl rfl (by kernel_rfl) ?_;intro K3 B;go_simp;refine B _ _ wX ?_;refine cW (by kernel_rfl) ?_ _;show KK _ _;apply F;have S:=U q;have V:=U l;clear F k B q K l C P w;go_wp2;go_ret;refine⟨_,rfl,?_,V⟩;rw[show aq+1=1+aq from vN _ _];exact S
def bJ.YX{s:SR}(h:bJ a b s m)(c:Bool):bJ (cA a (R b 20)<|aK c) b {s with kB:=c} m:=by
 have:=aT (i:=20) (u:=aK c) h;exact this
def bJ.YW{s:SR}(h:bJ a b s m)(c:Bool):bJ (cA a (R b 21)<|aK c) b {s with kA:=c} m:=by
 have:=aT (i:=21) (u:=aK c) h;exact this
structure fY(w w':Y)(db sb:M)(K K':DK):Prop where
 ok:cQ w' db K'
 aw:I (λk=>K.aU db k\/k=sb) w w'
 aU:∀k,K'.aU db k->K.aU db k\/z (G w)<=k
def fY.of{b sbqq:M}(h:qI a f b j P):fY a f b sbqq j P:=⟨h.ok,h.aw.mono<|λ_ c=>.inl<|.inl c,h.aU⟩
def fY.refl{b sbqq:M}(h:cQ a b j):fY a a b sbqq j j:=⟨h,I.refl _ _,λ_ c=>.inl c⟩
def fY.trans{w w' d:Y}{a:DK}(i:fY w w' c g j P)(k:fY w' d c g P a):fY w d c g j a:=⟨k.ok,i.aw.trans k.aw<|λx h=>h.elim (λe=>(i.aU x e).imp .inl id)<|λe=>.inl<|.inr e,λx h=>(k.aU x h).elim (λe=>i.aU x e)<|λe=>.inr<|aC i.aw.size e⟩
def fY.set(h:fY a f b c j P)(e:¬P.aU b c)(i:M)(v:aa):fY a (cA f (R c i) v) b c j P:=by
 have d:I (λk=>k=c) f (cA f (R c i) v):=(I.refl _ f).setCell c i v<|.inl rfl;exact⟨h.ok.aw d<|λk c f=>e<|f▸c,h.aw.trans d<|λk c=>.inl<|.inr c,h.aU⟩
def qI.AA(h:qI a f b j P)(d:¬j.aU b c)(g:c<z (G a)):¬P.aU b c:=λe=>(h.aU c e).elim d<|λi=>by omega
def AE{s:SR}(h:bJ a b s m)(hd:cQ a s.aH j)(hn:¬j.aU s.aH b)(hp:Pow a)(hl:s.log<18446744073709551616)(hf:s.kB=bU->∃bs,dX (vw j.files) (iQ s.log)=H bs/\y bs<=1000000000000)(hm:y j.eJ<=1000000000000):cD bz 62 #[ay b] a λbf w'=>bf=aL .nilIface/\∃x,fY a w' s.aH b j x/\vw x.files=vw j.files/\y x.eJ<=y j.eJ/\bJ w' b {s with kB:=aY,kA:=aY} m:=by
 have C:=am h;have av:∀bg D,cQ bg s.aH D->vw D.files=vw j.files->s.kB=bU->cD bz 102 #[ay s.aH,aj<|iQ s.log] bg λbf w'=>bf=aL .nilIface/\∃x,qI bg w' s.aH D x/\vw x.files=vw j.files/\x.eJ=D.eJ:=by intro bg D hW q p;obtain⟨bs,k,w⟩:=hf p;rw[<-q]at k;obtain⟨F,hF,c⟩:=ju k;refine(QC (iQ s.log) F hW hF (by rw[c];omega)).mono ?_;rintro bf w'⟨rfl,x,d,e,o⟩;refine⟨rfl,x,d,?_,o⟩;rw[e,DY];simp only[c,(kI hF).1];rw[Ca k,q]
 have au:∀bg D,cQ bg s.aH D->y D.eJ<=y j.eJ->cD bz 104 #[ay s.aH] bg λbf w'=>bf=aL .nilIface/\∃x,qI bg w' s.aH D x/\x.files=D.files/\x.eJ=[]:=λbg D hW a=>CI hW (by omega);obtain⟨aq,ao,HP,al,HB⟩:=je av au hp hd h;have c2:=bJ.cellAt h 2 rfl;have A:=bJ.cellAt h 17 rfl;have an:=bJ.cellAt h 20 rfl;have B:=bJ.cellAt h 21 rfl;clear av au hp hd h hf;cases p:s.kB with
 |false=>
  rw[p]at an;cases hln:s.kA with
  |false=>
   rw[hln]at B;have r:=HB;obtain⟨g,t,u⟩:=dA (fY.refl (sbqq:=b) al) (ai<|y j.eJ) hn;go_in
   go_wp2;go_ret;refine⟨rfl,j,g,rfl,t,?_⟩;have hB:=ae r;unfold bJ SR.cells at hB|-;grind
  |true=>
   rw[hln]at B;have r:=HB;obtain⟨g,t,u⟩:=dA (fY.refl (sbqq:=b) al) (ai<|y j.eJ) hn;go_in
   have Q:=ao a j g.ok t;go_wp2_with fail
   apply Q.mono;rintro bf w8⟨rfl,K8,n,V,X⟩;have f:=n.AA u<|ag C g.aw.size;have l:bJ w8 b _ m:=r.aw n.aw u;have bk:aO w8 (R b 21)=H (aK bU):=l.cell (by rw[<-hln];rfl);have bn:w8.frozen? (R b 21)=aY:=l.free;obtain⟨ba,ax,bb,bc⟩:=gH ((g.trans<|fY.of n).set f 21<|aK aY) (l.YW aY) V X;clear n V X f l Q;go_wp2;go_ret;refine⟨rfl,K8,ba,by rw[ae bb],by rw[ae bc];grind,?_⟩;have hB:=ae ax;grind
 |true=>
  rw[p]at an;cases hln:s.kA with
  |false=>
   rw[hln]at B;have hS:aO a.drew (R b 2)=H (ay s.aH)/\aO a.drew (R b 17)=H (aJ s.log):=⟨c2,A⟩;go_in
   go_wp2_with fail
   rename_i QQ KK L;refine cI (λw=>aO w (R b 2)=H (ay s.aH)/\aO w (R b 17)=H (aJ s.log)) 10 (by kernel_rfl) ?_;refine cY 0 ?_;iterate 8 (refine eM (v:=?_) hS rfl (by kernel_rfl) iW rfl ?_ ?_;rotate_left;(focus(intro w hX;obtain⟨z0,z1⟩:=hX;go_simp;try rfl));simp only[Act.put,dD,Nat.reduceAdd])
   apply eC;refine aM (i:=8) rfl rfl (by kernel_rfl) ?_;intro K8 F;go_simp;apply(wu s.log hl<|HP.aw (ci az a) id).mono;rintro bf w1⟨rfl,P⟩;have c:I az a w1:=(ci az a).cr<|I.aR (S:=az) P;have N:aO w1 (R b 2)=H (ay s.aH)/\aO w1 (R b 17)=H (aJ s.log):=⟨c.cell c2 id C,c.cell A id C⟩;have ac:=aq w1 j (al.aw c<|λ_ _=>id) rfl p;refine F _ _ (λ_=>N) ?_;refine aM (i:=9) rfl rfl (by kernel_rfl) ?_;intro K9 K;go_simp;apply ac.mono;rintro bf q⟨rfl,K2,e,ad,W⟩;have bo:=c.size;have d:bJ q b s m:=(HB.aw c id).aw e.aw hn;have O:aO q (R b 2)=H (ay s.aH)/\aO q (R b 17)=H (aJ s.log):=⟨d.cell rfl,d.cell rfl⟩;refine K _ _ (λ_=>O) ?_;refine aM (i:=10) rfl rfl (by kernel_rfl) ?_;intro bh o;go_simp;refine o _ _ wX ?_;refine cW (by kernel_rfl) ?_ _;show KK _ _;apply L;have f:=e.AA hn (by omega);have E:qI a q s.aH j K2:=⟨e.ok,(c.mono (T:=j.aU s.aH) cO).trans e.aw<|λ_ h=>.inl h,λD x=>(e.aU D x).imp id<|λau=>by omega⟩;have bi:aO q (R b 20)=H (aK bU):=d.cell (by rw[<-p];rfl);have bm:q.frozen? (R b 20)=aY:=d.free;have k:=d.YX aY;have bl:aO (cA q (R b 20)<|aK aY) (R b 21)=H (aK aY):=k.cell (by rw[<-hln];rfl);have e2:=bJ.cellAt k 2 rfl;obtain⟨r,g,bd,t,u⟩:=je k ((fY.of (sbqq:=b) E).set f 20<|aK aY) ad (show y K2.eJ<=y j.eJ by rw[W];grind) f;clear L F K o hS N O ac e ad W d k f E c P c2 A an B;go_wp2;go_ret;refine⟨rfl,K2,g,bd,t,?_⟩;have hB:=ae r;grind
  |true=>
   rw[hln]at B;have hS:aO a.drew (R b 2)=H (ay s.aH)/\aO a.drew (R b 17)=H (aJ s.log):=⟨c2,A⟩;go_in
   go_wp2_with fail
   rename_i QQ KK L;refine cI (λw=>aO w (R b 2)=H (ay s.aH)/\aO w (R b 17)=H (aJ s.log)) 10 (by kernel_rfl) ?_;refine cY 0 ?_;iterate 8 (refine eM (v:=?_) hS rfl (by kernel_rfl) iW rfl ?_ ?_;rotate_left;(focus(intro w hX;obtain⟨z0,z1⟩:=hX;go_simp;try rfl));simp only[Act.put,dD,Nat.reduceAdd])
   apply eC;refine aM (i:=8) rfl rfl (by kernel_rfl) ?_;intro K8 F;go_simp;apply(wu s.log hl<|HP.aw (ci az a) id).mono;rintro bf w1⟨rfl,P⟩;have c:I az a w1:=(ci az a).cr<|I.aR (S:=az) P;have N:aO w1 (R b 2)=H (ay s.aH)/\aO w1 (R b 17)=H (aJ s.log):=⟨c.cell c2 id C,c.cell A id C⟩;have ac:=aq w1 j (al.aw c<|λ_ _=>id) rfl p;refine F _ _ (λ_=>N) ?_;refine aM (i:=9) rfl rfl (by kernel_rfl) ?_;intro K9 K;go_simp;apply ac.mono;rintro bf q⟨rfl,K2,e,ad,W⟩;have bo:=c.size;have d:bJ q b s m:=(HB.aw c id).aw e.aw hn;have O:aO q (R b 2)=H (ay s.aH)/\aO q (R b 17)=H (aJ s.log):=⟨d.cell rfl,d.cell rfl⟩;refine K _ _ (λ_=>O) ?_;refine aM (i:=10) rfl rfl (by kernel_rfl) ?_;intro bh o;go_simp;refine o _ _ wX ?_;refine cW (by kernel_rfl) ?_ _;show KK _ _;apply L;have f:=e.AA hn (by omega);have E:qI a q s.aH j K2:=⟨e.ok,(c.mono (T:=j.aU s.aH) cO).trans e.aw<|λ_ h=>.inl h,λD x=>(e.aU D x).imp id<|λau=>by omega⟩;have bi:aO q (R b 20)=H (aK bU):=d.cell (by rw[<-p];rfl);have bm:q.frozen? (R b 20)=aY:=d.free;have k:=d.YX aY;have bl:aO (cA q (R b 20)<|aK aY) (R b 21)=H (aK bU):=k.cell (by rw[<-hln];rfl);have e2:=bJ.cellAt k 2 rfl;obtain⟨r,g,bd,t,u⟩:=je k ((fY.of (sbqq:=b) E).set f 20<|aK aY) ad (show y K2.eJ<=y j.eJ by rw[W];grind) f;clear L F K o hS N O ac e ad W d k f E c P c2 A an B;have Q:=ao (cA q (R b 20)<|aK aY) K2 g.ok t;go_wp2_with fail
   apply Q.mono;rintro bf w8⟨rfl,K8,n,V,X⟩;have f:=n.AA u<|ag C g.aw.size;have l:bJ w8 b _ m:=r.aw n.aw u;have bk:aO w8 (R b 21)=H (aK bU):=l.cell (by rw[<-hln];rfl);have bn:w8.frozen? (R b 21)=aY:=l.free;obtain⟨ba,ax,bb,bc⟩:=gH ((g.trans<|fY.of n).set f 21<|aK aY) (l.YW aY) V X;clear n V X f l Q;go_wp2;go_ret;refine⟨rfl,K8,ba,by rw[ae bb];exact bd,by rw[ae bc];grind,?_⟩;have hB:=ae ax;grind
section
open Shelf
def Yf(x:Z)(w:Y):cD bz 280 #[aJ x] w λe a=>e=aL (aK aY)/\a=w:=by
 go_in
 go_wp2;go_ret;simp_all
def Im(x a:Z)(w:Y):cD bz 261 #[aJ x,aJ a] w λe b=>e=aL (aK<|decide<|x<a)/\b=w:=by
 have h:=Yf x w;go_in
 go_wp2_with(go_at_call 280;refine h.mono ?_;rintro e b⟨rfl,rfl⟩)
 go_ret;simp_all
def RE(a:b+1<y p):((p.set (b+1) p[b]).set b p[b+1]).Perm p:=by
 grind
def Wh(k i:M)(n:eO)(w:a.ownsRow b 98 1 (bB k 0 (y n) i) (y n) (n.map<|Value.int .u64))(hn:y n<=12):cD bz 255 #[bB k 0 (y n) i,ap 0,ap<|y n] a λao K=>ao=aL (dw #[])/\∃m:eO,m.Perm n/\K.ownsRow b 98 1 (bB k 0 (y m) i) (y m) (m.map<|Value.int .u64)/\I (λr=>r=k) a K:=by
 obtain⟨L,V⟩:∃L,y n=L:=⟨_,rfl⟩;rw[V]at w hn|-;go_in
 go_wp2;go_loopw [6] (λc wr=>∃(p:M)(m:eO),c=ap p/\1<=p/\y m=L/\m.Perm n/\wr.ownsRow b 98 1 (bB k 0 L i) L (m.map<|Value.int .u64)/\I (λr=>r=k) a wr) (λc _=>L-(intOf c).toNat)
 case atStart=>grind[Perm.refl,I.refl]
 (case round=>obtain⟨p,m,rfl,ac,d,e,c,f⟩:=hrel;by_cases X:p<L;(·(have Q:(p:Z)<(L:Z):=by omega);have j:=U<|And.intro d (And.intro e (And.intro c f));clear d e c f w;go_wp2;(go_loopw [7] (λA c=>∃(B:M)(m:eO),A=ap B/\B<=p/\y m=L/\m.Perm n/\c.ownsRow b 98 1 (bB k 0 L i) L (m.map<|Value.int .u64)/\I (λr=>r=k) a c) (λA _=>(intOf A).toNat));(case atStart=>exact⟨p,m,rfl,ai _,j.1,j.2.1,j.2.2.1,j.2.2.2⟩);(case round=>obtain⟨B,m,rfl,ad,d,e,c,f⟩:=hrel;rcases gB B with D|D;(.subst D;have g:=U<|And.intro d (And.intro e (And.intro c f));clear d e c f;(go_wp2_with fail);(go_quiet(fail));go_wp2;go_roundw;(case rel=>exact⟨p+1,m,by go_num,by omega,g.1,g.2.1,jd g.2.2.1 rfl,g.2.2.2.of_heap rfl⟩);case measure=>simp[intOf];omega);(.obtain⟨q,rfl⟩:∃q,B=q+1:=⟨B-1,by omega⟩;obtain⟨_,⟨O,_⟩|⟨b',F,C,O,v,t⟩⟩:=da c;cases O;cases O;have c1:=t (q+1) (aJ<|m[q+1]'(by omega)) (by rw[dP,aI<|by omega];rfl);have P:=t q (aJ<|m[q]'(by omega)) (by rw[dP,aI<|by omega];rfl);simp only[dp]at P c1;have W:=(c.lt k rfl).2;(have l:∀A,wr.frozen? (R k A)=aY:=by intro A;obtain⟨S,u⟩:=fR c (k:=k) rfl;exact dE u);have f1:=l<|q+1;have f0:=l q;have N:=U (show∀wf,(wf=cA (cA wr (R k<|q+1)<|aJ<|m[q]'(by omega)) (R k q) (aJ<|m[q+1]'(by omega)))->∃o:eO,y o=L/\o.Perm n/\wf.ownsRow b 98 1 (bB k 0 L i) L (o.map<|Value.int .u64)/\I (λr=>r=k) a wf from by rintro wf rfl;refine⟨(m.set (q+1) m[q]).set q m[q+1],by simpa using d,(RE<|by omega).trans e,?_,(f.setCell _ _ _<|.inl rfl).setCell _ _ _<|.inl rfl⟩;have s:=(World.ownsRow.stored (World.ownsRow.stored c (q+1)<|aJ<|m[q]'(by omega)).1 q<|aJ<|m[q+1]'(by omega)).1;rw[nZ,nZ];exact s);have g:=U<|And.intro d (And.intro e (And.intro c f));have E:L<=i:=v;(have e2:(q:Z)+1<(L:Z):=by omega);(have e3:(q:Z)<(L:Z):=by omega);(have e4:(0:Z)<(q:Z)+1:=by omega);(have e5:(0:Z)<=(q:Z):=by omega);(have al:q+1<y m:=by omega);generalize m[q+1]=x at*;generalize m[q]'(by omega)=aq at*;clear d e c f t l;by_cases an:x<aq;(·(go_wp2_with fail);(go_quiet(first|(go_at_call 261;refine Calls.quiet_of_same (Im _ _ _))));(go_wp2_with fail);(go_region);go_wp2;go_roundw;(case rel=>obtain⟨o,s,u,S,T⟩:=N _ rfl;exact⟨q,o,by go_num,by omega,s,u,jd S rfl,T.of_heap rfl⟩);case measure=>simp[intOf]);(·(go_wp2_with fail);(go_quiet(first|(go_at_call 261;refine Calls.quiet_of_same (Im _ _ _))));go_wp2;go_roundw;(case rel=>exact⟨p+1,m,by go_num,by omega,g.1,g.2.1,jd g.2.2.1 rfl,g.2.2.2.of_heap rfl⟩);case measure=>simp[intOf];omega))));(have Q:¬((p:Z)<(L:Z)):=by omega);have j:=U<|And.intro d (And.intro e (And.intro c f));clear d e c f w;go_wp2;go_end0;exact⟨rfl,m,j.2.1,by rw[(ae j).1];exact j.2.2.1,j.2.2.2⟩)
def Wi(l:eO)(j:a.ownsRow b 98 1 d (y l) (l.map<|Value.int .u64))(t:y l<=12):cD bz 255 #[d,ap 0,ap<|y l] a λv f=>v=aL (dw #[])/\∃m:eO,m.Perm l/\f.ownsRow b 98 1 d (y m) (m.map<|Value.int .u64)/\I (λw=>ct d=H w) a f:=by
 rcases j.2 with⟨rfl,n⟩|⟨x,c,k,rfl,p,A,u,q,r,e⟩;(.obtain rfl:=aP n;(go_in);go_wp2;refine mr 1 ?_;rw[ku];go_wp2;go_end0;grind[Perm.refl,I.refl]);apply(Wh x c l j t).mono;rintro v f⟨rfl,m,g,i,o⟩;refine⟨rfl,m,g,?_,o.mono<|λw s=>.inl (by rw[s];rfl)⟩;rw[g.length_eq]at i|-;exact i
def Vr(l:eO)(k:Z)(c:a.ownsRow b 98 1 d (y l) (l.map<|Value.int .u64))(i:y l<=12):cD bz 219 #[d,ap 0,ap<|y l,ap k] a λn e=>n=aL (dw #[])/\∃m:eO,m.Perm l/\e.ownsRow b 98 1 d (y m) (m.map<|Value.int .u64)/\I (λk=>ct d=H k) a e:=by
 have h:=Wi l c i;obtain⟨x,p,j⟩:=aA c;have o:(y l:Z)<=12:=by omega
 subst j;clear c;go_in
 go_wp2;refine mr 1 ?_;rw[ku];go_wp2_with fail
 apply h.mono;rintro n e⟨rfl,f⟩;have g:=U f;clear f;go_wp2;refine cP (iT rfl _ _ _) rfl ?_;exact⟨rfl,g⟩
def Tf(n:M)(c:n<=4)(w:Y):cD bz 140 #[aJ n] w λe b=>(∃k,e=aL (ap k))/\b=w:=by
 have a:n=0\/n=1\/n=2\/n=3\/n=4:=by omega
 rcases a with rfl|rfl|rfl|rfl|rfl;(all_goals(go_in);go_wp2;go_ret;exact⟨⟨_,rfl⟩,rfl⟩)
def Yn(n:M)(b:n<=4)(w:Y):cD bz 77 #[aJ n] w λe a=>(∃k,e=aL (ap k))/\a=w:=by
 have h:=Tf n b w;go_in
 go_wp2_with(go_at_call 140;refine h.mono ?_;rintro e a⟨⟨k,rfl⟩,rfl⟩)
 go_wp2;go_ret;simp_all
def RU(l:eO)(e:a.ownsRow b 98 1 d (y l) (l.map<|Value.int .u64))(m:y l<=4):cD bz 156 #[d] a λi c=>i=aL (dw #[])/\∃o:eO,o.Perm l/\c.ownsRow b 98 1 d (y o) (o.map<|Value.int .u64)/\I (λk=>ct d=H k) a c:=by
 have h:=λk=>Vr l k e (by omega);have j:=Yn (y l) m a;obtain⟨x,q,n⟩:=aA e;subst n;clear e;go_in
 go_wp2_with fail
 apply j.mono;rintro i c⟨⟨k,rfl⟩,p⟩;subst c;go_wp2_with fail
 apply(h k).mono;rintro i c⟨rfl,f⟩;have g:=U f;clear f;go_wp2;go_end0;exact⟨rfl,g⟩
def Ln{bm b:M}(u:fM){w:Y}(x:ep w bm (.map<|H b) 103)(A:jw w b u)(q:xA u p)(C:y p<=4):cD bz 94 #[.func (.func 157) #[] #[ay bm]] w λv t=>
 ∃i,∃s:eO,v=aL i/\s.Perm p/\t.ownsRow (z<|G w) 98 1 i (y s) (s.map<|Value.int .u64)/\I (λk=>k=bm) w t:=by
 have h:=Kp u x A q<|by omega
 go_in
 go_wp2_with fail
 apply h.mono
 rintro v K⟨i,s,rfl,m,g,r⟩
 have B:=RU s g (by have:=m.length_eq;omega)
 have c:∀k,ct i=H k->z (G w)<=k:=λk n=>(aG g k n).1
 obtain⟨F,E,o⟩:=aA g
 have a:=U<|And.intro m r
 have l:=U c
 clear m g r c
 subst o
 go_wp2_with fail
 apply B.mono
 rintro v L⟨rfl,D,d,e,f⟩
 have j:=U<|And.intro d (And.intro e f)
 clear d e f
 go_wp2
 go_ret
 exact⟨_,D,rfl,j.1.trans a.1,j.2.1,a.2.trans j.2.2<|λk n=>.inr<|l k n⟩
end
def FK{ky:cw (aa×cf)}{en:aa->aa->Array aa}(dm e j:M)(X xa xd:Option Addr)(fz hK na ds nd dv:M)(bx bd:cf)(h1:sf t c (bB dm e (y i) j) i a)(hu:y i<=j)(kd:0<y i)(h2:sf t c (J X fz hK) o a)(hA:Row a 1 (J xa na ds) (y bx) (bx.map bA.ptr))(hB:Row a 1 (J xd nd dv) (y bd) (bd.map bA.ptr))(ez:∀k,ct (J xa na ds)=H k->k<c/\¬t.F k)(eF:∀k,ct (J xd nd dv)=H k->k<c/\¬t.F k)(la:t.D a)(r:c<=z (G a))(hF:∀k,t.F k->k<c)(lx:t.Cl)(lc:Steps a)(hn:1<c/\¬t.F 1)(me:y i+y o+y bx+y bd<=1000000)(kb:iF o<=1000000000)(d:Bool)(hi:(b=1/\m=1/\K=3/\V=#[J xa na ds,bB dm e (y i) j,J X fz hK,J xd nd dv]/\ky=[((J xa na ds:aa),bx),(bB dm e (y i) j,i),(J X fz hK,o),(J xd nd dv,bd)]/\en=(λmp fz=>#[J xa na ds,mp,fz,J xd nd dv])/\d=bd.isEmpty)\/(b=2/\m=2/\K=4/\V=#[J xa na ds,J xd nd dv,bB dm e (y i) j,J X fz hK]/\ky=[((J xa na ds:aa),bx),(J xd nd dv,bd),(bB dm e (y i) j,i),(J X fz hK,o)]/\en=(λmp fz=>#[J xa na ds,J xd nd dv,mp,fz])/\d=bU))(lj:∀p(hj:p<y i),∀ws:cf,ws.Sublist o->dM (cG<|cg ws::[i[p]].map bA.all)/\(∀ms∈cG (cg ws::[i[p]].map bA.all),ms.Good)/\y (cG<|cg ws::[i[p]].map bA.all)<=1000000)(Q:eO)(mx:Option Addr)(mc:M)(le:Row a 1 (J mx (y Q) mc) (y Q) (Q.map<|Value.int .u64))(hy:∀k,ct (J mx (y Q) mc)=H k->k<c/\¬t.F k)(hw:y Q<=4):cD bz 148 #[dW V,ap m,J mx (y Q) mc] a λac s=>∃xl nl hc xm w hd,∃tm:cf,∃p,∃hj:p<y i,∃A q,ac=aL (dw #[dW<|en (J xl nl hc)<|J xm w hd,.nilIface])/\zr o (fg i[p].ks) (fS i[p].ks) A q/\s.ownsRow (z<|G a) 142 1 (J xl nl hc) (y<|i.take p++i.drop (p+1)) ((i.take p++i.drop (p+1)).map bA.ptr)/\s.ownsRow (z<|G a) 142 1 (J xm w hd) (y<|o.take A++tm++o.drop q) ((o.take A++tm++o.drop q).map bA.ptr)/\tm.map bA.all=gR (rO Q d [i[p]]<|(o.drop A).take<|q-A)/\qG s (z<|G a) tm/\t.D s/\I t.F a s:=by
 have hW:I az a (cF (cF a<|ar V 102)<|ar #[aD,aD,aD,aD] 102):=(cK _ a).alloc _;generalize cp:cF (cF a<|ar V 102) (ar #[aD,aD,aD,aD] 102)=bf at hW;have bc:bf.heap[z<|G a]?=H (ar V 102 (0,0)):=by rw[<-cp];grind[gl,aB]
 have hf:bf.heap[z (G a)+1]?=H (ar #[aD,aD,aD,aD] 102 (0,0)):=by rw[<-cp];exact aB _<|by simp
 have cB:∀k,c<=k->¬t.F k:=λk f hb=>by have:=hF k hb;omega
 have fb:∀l,I t.F bf l->DB l (z<|G a) 0 ky:=by
  intro l O;have ax:∀dk b,Row a 1 dk (y b) (b.map bA.ptr)->(∀k,ct dk=H k->k<c/\¬t.F k)->Row l 1 dk (y b) (b.map bA.ptr):=λdk b mb f=>
   O.row (hW.row mb<|λk ac=>⟨id,ag (f k ac).1 r⟩) (λk ac=>⟨(f k ac).2,ag (f k ac).1<|aC r hW.size⟩)
  have hN:z (G a)<=z (G l):=aC hW.size O.size;have P:∀b dk,V[b]?=H dk->aO l (R (z<|G a)<|0+b)=H dk:=by
   intro b dk kl;refine O.cell ?_ (cB _ r)<|am bc;rw[bL bc,dp];exact kl
  rcases hi with⟨_,_,_,rfl,rfl,_⟩|⟨_,_,_,rfl,rfl,_⟩;all_goals
   refine⟨rfl,λb hi=>?_,λb hi=>?_,λb hi k f=>?_,by simp[mf];omega⟩
   .match b,hi with
    |0,_|1,_|2,_|3,_=>exact P _ _ rfl
   .match b,hi with
    |0,_|1,_|2,_|3,_=>first|exact ax _ _ hA ez|exact ax _ _ h1.row h1.loc|exact ax _ _ h2.row h2.loc|exact ax _ _ hB eF
   .match b,hi with
    |0,_|1,_|2,_|3,_=>first|exact ag (ez k f).1 (aC r hN)|exact ag (h1.loc k f).1 (aC r hN)|exact ag (h2.loc k f).1 (aC r hN)|exact ag (eF k f).1<|aC r hN
 have kk:∃S1 S2:Y->Prop,(∀l,I t.F bf l->S1 l/\S2 l)/\(∀g,S1 g->aO g (R (z<|G a) b)=H (bB dm e (y i) j))/\∀g,S2 g->aO g (R (z<|G a)<|b+1)=H (J X fz hK):=by refine⟨_,_,λl O=>?_,λg h=>h,λg h=>h⟩;(have P:∀b dk,V[b]?=H dk->aO l (R (z<|G a) b)=H dk:=by intro b dk kl;refine O.cell ?_ (cB _ r)<|am bc;rw[bL bc];exact kl);rcases hi with⟨rfl,_,_,rfl,_⟩|⟨rfl,_,_,rfl,_⟩<;>exact⟨P _ _ rfl,P _ _ rfl⟩
 obtain⟨S1,S2,hL,ey,cq⟩:=kk;have fs:=hW.size;have cm:∀l,I az bf l->jF t c az a l:=λl ht=>(hW.cr ht).same r cO cO;have hM:m=(b:M)/\K=(b+2:M)/\(b=1\/b=2)/\jZ ky (b+2)=d:=by rcases hi with⟨rfl,rfl,rfl,_,rfl,_,rfl⟩|⟨rfl,rfl,rfl,_,rfl,_,rfl⟩;exact⟨rfl,rfl,.inl rfl,by simp[jZ]⟩;exact⟨rfl,rfl,.inr rfl,by simp[jZ]⟩
 have bp:∀q,cD bz 204 #[ay<|z<|G a,ap m] (bf.drewN q) λac s=>∃p:M,ac=aL (ap p)/\p<y i/\I az bf s:=by intro q;have ax:=gD az bf q;have hN:=fb _<|ax.mono cO;rw[hM.1];refine(JM (w:=(bf.drewN q)) (z<|G a) 0 b (ts1:=i) (by omega) (by rw[dp];exact ey _ (hL _<|ax.mono cO).1) (by rw[dp];exact cq _ (hL _<|ax.mono cO).2) hN.lt ((h1.same<|cm _ ax).mem<|aC r fs) ((h2.same<|cm _ ax).mem<|aC r fs) h2.side.AM kd kb).mono ?_;rintro ac s⟨p,rfl,hj,mb⟩;exact⟨p,rfl,hj,ax.cr<|I.aR (S:=az) mb⟩
 have D:∀l,I t.F bf l->cD bz 207 #[ay<|z<|G a,ap K] l λac s=>ac=aL (aK d)/\s=l:=by intro l O;have h:=CX (b+2) ky (fb l O) (by omega);rw[hM.2.2.2]at h;rw[hM.2.1];exact h
 clear hM;obtain⟨ei,fL,hQ,HC,hU,HW,ce,it,bk⟩:=xU bc hf D hL bp hW cB cp cm;obtain⟨H1,H2,HD,HF,HT,em,hT,HM,ek⟩:=xU h1 h2 la hF lc hn lj le hy;clear h1 h2 hA hB ez eF la hF lc hn lj le hy bc hf fb bp hW cB cp cm D hL;rcases hi with⟨rfl,rfl,rfl,rfl,rfl,rfl,ef⟩|⟨rfl,rfl,rfl,rfl,rfl,rfl,ef⟩
 all_goals
  clear ef;simp only[Nat.reduceAdd]at cq;have gt:=U ey;have cd:=U cq;clear ey cq;go_in
  go_wp2_with fail
  go_quiet(fail)
  rw[ae it];have bp:=hU nq;go_wp2_with fail
  apply bp.mono;rintro ac w1⟨p,rfl,hj,fn⟩;have jK:=gt w1 (HC w1<|fn.mono cO).1;have x:=U fn;clear fn bp;obtain⟨j1,cv⟩:∃j1,p+1=j1:=⟨_,rfl⟩;have e1:(p:Z)+1=(j1:Z):=by omega
  have e2:(p:Z)<=(j1:Z):=by omega
  have e3:(j1:Z)<=(j:Z):=by omega
  have e4:(j1:Z)<=(y i:Z):=by omega
  have e5:(p:Z)<=(j:Z):=by omega
  have e6:¬(j=p):=by omega
  have e7:¬(j-p=0):=by omega
  have e8:IntKind.i64.wrap (j1:Z)=(j1:Z):=by rw[bw];omega
  have e9:(0:Z)<=(p:Z):=by omega
  have lt:(y i:Z)<=(j:Z):=by omega
  have lv:j1-p=1:=by omega
  have HJ:=U cv;clear cv;have lb:S1 w1.drew:=(HC _<|(x.cr<|ci az w1).mono cO).1;go_wp2_with fail
  rename_i QQ KK hl;refine cI S1 21 (by kernel_rfl) ?_;refine cY 0 ?_;iterate 18 (refine eM (v:=?_) lb rfl (by kernel_rfl) iW rfl ?_ ?_;rotate_left;(focus(intro g hX;have z0:=gt g hX;go_simp;try rfl));simp only[Act.put,dD,Nat.reduceAdd])
  apply eC;refine aM (i:=18) rfl rfl (by kernel_rfl) ?_;intro iu ad;go_simp;have eu:iS w1 (bB dm e (y i) j) i:=((H1.same<|bk w1 x).mem<|aC r<|aC fs x.size);have md:=x.size;have L:=YC (w1:=w1) (ta:=(i.take p)) (tbqq:=(i.drop j1)) (z<|G a) (eu.take p<|by omega) (VR eu hu (by have:=ae HJ;omega)) (by simp;omega) (by omega) 100;refine ad _ _ (λ_=>?_) ?_
  .exact(HC _<|((x.alloc _).cr<|ci az _).mono cO).1
  refine aM (i:=19) rfl rfl (by kernel_rfl) ?_;intro iv al;go_simp;apply L.mono;rintro ac u⟨vl,rfl,cM,dd⟩;obtain⟨nl,fd⟩:∃nl,y (i.take p++i.drop j1)=nl:=⟨_,rfl⟩;rw[fd]at cM;have hY:=U fd;clear fd;obtain⟨xl,hc,rfl⟩:=aA cM;have ev:S1 u:=(HC _<|(x.cr dd).mono cO).1;refine al _ _ (λ_=>ev) ?_;refine aM (i:=20) rfl rfl (by kernel_rfl) ?_;intro lp eb;go_simp;refine eb _ _ (λ_=>ev) ?_;refine aM (i:=21) rfl rfl (by kernel_rfl) ?_;intro lr ec;go_simp;refine ec _ _ wX ?_;refine cW (by kernel_rfl) ?_ _;show KK _ _;apply hl;generalize(if j=j1 then H ((R dm e):Addr)else H (R dm<|e+j1))=zz at*;have v:I az bf u:=x.cr dd;have N:=U v;have gr:=U cM;have mm:=v.size;have bn:iS u (bB dm e (y i) j) i:=((H1.same<|bk u v).mem<|by omega);have jE:iS u (J X fz hK) o:=((H2.same<|bk u v).mem<|by omega);have ka:=cd u (HC u<|v.mono cO).2;have hp:=bn.cell hj;have cu:∀bf,bf.heap=u.heap->cD bz 124 #[i[p].ptr] bf λac s=>ac=aL (aj<|fg i[p].ks)/\s=bf:=λbf hW=>((bn.each _<|ak hj).of_heap hW).first;have cx:∀bf,bf.heap=u.heap->cD bz 125 #[i[p].ptr] bf λac s=>ac=aL (aj<|fS i[p].ks)/\∃q,s=bf.drewN q:=λbf hW=>((bn.each _<|ak hj).of_heap hW).last;have hs:dm<z (G u):=bn.lt dm rfl;have jC:z (G a)<z (G u):=by have:=am ei;omega
  have hcut:∀l,I az u l->cD bz 205 #[J X fz hK,aj<|fg i[p].ks,aj<|fS i[p].ks] l λac s=>∃va vb vc,ac=aL (dw #[va,vb,vc])/\(∃A q,zr o (fg i[p].ks) (fS i[p].ks) A q/\iS s va (o.take A)/\iS s vb ((o.drop A).take<|q-A)/\iS s vc (o.drop q)/\(∀k,ct va=H k\/ct vb=H k\/ct vc=H k->ct (J X fz hK)=H k))/\I az u s/\S2 s/\aO s (R dm<|e+p)=H i[p].ptr:=by
   intro l ex;refine(MO (fg i[p].ks) (fS i[p].ks) ((H2.same<|bk l<|v.cr ex).mem (by have:=ex.size;omega)) H2.side.AM).mono ?_;rintro ac s⟨A,q,va,vb,vc,rfl,a1,a2,a3,a4,a5,hr⟩;have fl:I az u s:=ex.cr<|I.aR (S:=az) hr;exact⟨va,vb,vc,rfl,⟨A,q,a1,a2,a3,a4,a5⟩,fl,(HC s<|(v.cr fl).mono cO).2,fl.cell hp id hs⟩
  clear hl ad al eb ec L eu bn jE lb ev jK cM dd v;unfold bA.ptr at hp cu cx hcut;have gs:=U (show∃s1 s2 ao,fg i[p].ks=s1/\fS i[p].ks=s2/\i[p].tb=ao from⟨_,_,_,rfl,rfl,rfl⟩);obtain⟨s1,s2,ao,cj,ck,bb⟩:=ae gs;rw[cj,ck,bb]at hcut;rw[cj,bb]at cu;rw[ck,bb]at cx;rw[bb]at hp;obtain⟨hR,hS,ll⟩:=dA cj ck bb;clear cj ck bb gs;obtain⟨ge,bh,gb⟩:=dA cu cx hcut;clear cu cx hcut;have g1:IntKind.i64.wrap (2:Z)=2:=by rw[bw];omega
  have g2:IntKind.i64.wrap (3:Z)=3:=by rw[bw];omega
  have co:S2 u.drew/\aO u.drew (R dm<|e+p)=H (ay ao):=⟨(HC _<|(N.cr<|ci az u).mono cO).2,hp⟩;go_wp2_with fail
  rename_i Q6 K6;refine cI (λg=>S2 g/\aO g (R dm<|e+p)=H (ay ao)) 19 (by kernel_rfl) ?_;refine cY 0 ?_;iterate 7 (refine eM (v:=?_) co rfl (by kernel_rfl) iW rfl ?_ ?_;rotate_left;(focus(intro g hX;obtain⟨bT,z1⟩:=hX;have z0:=cd g bT;go_simp;try rfl));simp only[Act.put,dD,Nat.reduceAdd])
  apply eC;refine cY 8 ?_;iterate 3 (refine eM (v:=?_) co rfl (by kernel_rfl) iW rfl ?_ ?_;rotate_left;(focus(intro g hX;obtain⟨bT,z1⟩:=hX;have z0:=cd g bT;go_simp;try rfl));simp only[Act.put,dD,Nat.reduceAdd])
  apply eC;refine aM (i:=7) rfl rfl (by kernel_rfl) ?_;intro K7 hk;go_simp;apply(ge u.drew rfl).mono;rintro ac W⟨rfl,ko⟩;subst W;refine hk _ _ (λ_=>co) ?_;refine aM (i:=11) rfl rfl (by kernel_rfl) ?_;intro lm dx;go_simp;apply(bh u.drew rfl).mono;rintro ac W⟨rfl,qq,ko⟩;subst W;refine dx _ _ (λ_=>⟨(HC _<|((N.cr<|ci az u).cr<|gD az _ _).mono cO).2,hp⟩) ?_;refine aM (i:=12) rfl rfl (by kernel_rfl) ?_;intro ln dT;go_simp;apply(gb (u.drewN<|1+qq)<|gD _ _ _).mono;rintro ac W⟨va,vb,vc,rfl,kc,fq,br⟩;refine dT _ _ (λ_=>br) ?_;refine cY 13 ?_;iterate 4 (refine eM (v:=?_) br rfl (by kernel_rfl) iW rfl ?_ ?_;rotate_left;(focus(intro g hX;obtain⟨bT,z1⟩:=hX;have z0:=cd g bT;go_simp;try rfl));simp only[Act.put,dD,Nat.reduceAdd])
  apply eC;refine aM (i:=17) rfl rfl (by kernel_rfl) ?_;intro lo ea;go_simp;refine ea _ _ (λ_=>br) ?_;refine aM (i:=18) rfl rfl (by kernel_rfl) ?_;intro iu ad;go_simp;refine ad _ _ (λ_=>br) ?_;refine aM (i:=19) rfl rfl (by kernel_rfl) ?_;intro iv al;go_simp;refine al _ _ wX ?_;refine cW (by kernel_rfl) ?_ _;show K6 _ _;apply QQ;obtain⟨A,q,hg,eq,cl,es,et⟩:=kc;clear QQ hk dx dT ea ad al br co ka hp ge bh gb;obtain⟨kv,jA,hD⟩:=bM eq.row;obtain⟨fx,eo,hE⟩:=bM cl.row;obtain⟨kx,jB,hG⟩:=bM es.row;generalize y (o.take A)=kq at hD;generalize y ((o.drop A).take<|q-A)=fu at hE;generalize y (o.drop q)=ks at hG;subst hD;subst hE;subst hG;have C:I az bf W:=N.cr fq;have mn:=C.size;have bs:((o.drop A).take<|q-A).Sublist o:=(nA _ _).trans<|kG _ _;have cn:=bk W C;obtain⟨fk,hC,db⟩:=hT p hj _ bs;have D:=λl(O:I t.F W l)=>hQ l<|(C.mono (T:=t.F) cO).trans O<|λ_ h=>.inl h;have hx:cD bz 206 #[bB dm (e+p) 1<|j-p,J fx fu eo] W λac s=>∃a,ac=aL (dw #[a,.nilIface])/\s.ownsRow (z<|G W) 180 4 a (y<|cG<|cg ((o.drop A).take<|q-A)::[i[p]].map bA.all) (aF<|cG<|cg ((o.drop A).take<|q-A)::[i[p]].map bA.all)/\t.D s/\I t.F W s:=by
   have hm:=H1.same cn;have jH:=H2.same cn;refine Fe c dm (e+p) (j-p) (J fx fu eo) [i[p]] ((o.drop A).take<|q-A) ?_ (H1.loc dm rfl) ?_ (by simp) ⟨cl.row,λk f=>H2.loc k<|et k<|.inr<|.inl f,λmv ht=>jH.each mv<|bs.subset ht,H2.side.sub bs,cl.small⟩ (t.fD HD (HW.cr C) cO) (by omega) HF lx db
   .intro b hi;obtain rfl:b=0:=by grind
    exact hm.cell hj
   .intro mv ht;rw[cX]at ht;subst ht;exact hm.each _<|ak hj
  have bv:I az a W:=HW.cr C;obtain⟨ca,gj,aq,bi,ej⟩:=je (If (V:=t) (W:=W) (ms:=Q) (mx:=mx) (mc:=mc) (cG<|cg ((o.drop A).take<|q-A)::[i[p]].map bA.all) (bv.row HM<|λk ac=>⟨id,ag (ek k ac).1 r⟩) (λk ac=>⟨by have:=(ek k ac).1;omega,(ek k ac).2⟩) hw fk db) (show∀l,I t.F W l->Steps l fromλl ht k f=>ht.cell ((HT.same cn em) k f) em.2 (by have:=em.1;omega)) (show dM (rO Q d [i[p]]<|(o.drop A).take<|q-A)/\rq 5 (rO Q d [i[p]]<|(o.drop A).take<|q-A)/\(∀ms∈rO Q d [i[p]] ((o.drop A).take<|q-A),ms.Good)/\y (rO Q d [i[p]]<|(o.drop A).take<|q-A)<=1000000 from td fk hC db hw) (show rO Q d [i[p]] ((o.drop A).take<|q-A)=if d then gA (dI Q<|cG<|cg ((o.drop A).take<|q-A)::[i[p]].map bA.all)else dI Q (cG<|cg ((o.drop A).take<|q-A)::[i[p]].map bA.all)from rfl) D;clear D fk hC db bv;generalize jD:cG (cg ((o.drop A).take<|q-A)::[i[p]].map bA.all)=ML at*;clear jD;obtain⟨ch,bo⟩:∃ch,rO Q d [i[p]] ((o.drop A).take<|q-A)=ch:=⟨_,rfl⟩;rw[bo]at aq bi;have gn:=U bo;clear bo;obtain⟨hP,bh,gg,il,dn,hV⟩:=jX hg eq es C (fq.own gr<|λ_ _ hb=>hb) et;clear hg eq cl es et C cn fq gr;go_wp2_with fail
  apply hx.mono;rintro ac w1⟨kt,rfl,E,bm,F⟩;obtain⟨hI,he,rfl⟩:=aA E;have hz:=ca.1 w1 _ hI he F E;have bg:=U bm;have x:=U F;clear E bm F hx;go_wp2_with fail
  apply hz.mono;rintro ac u⟨vn,rfl,cT,av⟩;have bt:I t.F W u:=x.cr av;have hh:=t.fD bg av cO;obtain⟨xn,kz,rfl⟩:=aA cT;have D:=ej u bt;have eA:=ca.2 u _ xn kz cT;have hH:=x.size;obtain⟨cb,N,el⟩:=dA hh bt cT;clear cT hh bt av hz;cases d;case' false=>
   obtain rfl:ch=dI Q ML:=ae bi;clear eA ca bi;go_wp2_with fail
   apply D.mono;rintro ac fv⟨rfl,kn⟩;subst fv;clear D;obtain⟨cc,bl,gc⟩:=dA (er (base':=z<|G W) el<|by omega) N cb;clear N cb el x bg ej;generalize u=w5 at*
  case' true=>
   obtain rfl:ch=gA (dI Q ML):=ae bi;go_wp2_with fail
   apply D.mono;rintro ac fv⟨rfl,kn⟩;subst fv;go_wp2_with fail
   apply eA.mono;rintro ac w5⟨vb,rfl,ff,fr⟩;obtain⟨xn,kz,rfl⟩:=aA ff;obtain⟨cc,bl,gc⟩:=dA (er (base':=z<|G W) ff (by have:=N.size;omega)) (N.cr fr)<|t.fD cb fr cO;clear ff fr D eA N cb el x bg ej ca bi hH
  all_goals
   have kf:=uF (da cc) aq.1 aq.2.1 aq.2.2.1 aq.2.2.2 (λk f=>(cc.lt k f).2)<|gj w5 bl;have jG:=aq.2.2.2;clear cc gj aq;go_wp2_with fail
   apply kf.mono;rintro ac w4⟨kt,tm,rfl,E,cs,cE,av⟩;have F:I t.F W w4:=bl.cr av;have bm:=t.fD gc av cO;have cE:=cE.base (base':=z<|G W) bl.size;have E:=er (base':=z<|G W) E bl.size;have dd:y tm<=1000000:=by
    have h1:=bX y cs;rw[cV]at h1;rw[h1];exact aC (xI _) jG
   rw[<-ae gn]at cs;clear av;have ba:I t.F bf w4:=(il.mono (T:=t.F) cO).trans F<|λ_ h=>.inl h;obtain⟨hI,he,rfl⟩:=aA E;have mo:=F.size;have ho:=(ba.block _ (am ei)<|ce _ r).trans ei;have hq:=(ba.block _ (am fL)<|ce _<|by omega).trans fL;have an:∀k,ct (J kv kq jA)=H k\/ct (J fx fu eo)=H k\/ct (J kx ks jB)=H k->k<c/\¬t.F k:=λk f=>H2.loc k<|hV k f;have L:=YB (o.take A) tm (o.drop q) (z<|G a) (F.row bh.row<|λk f=>⟨(an k<|.inl f).2,bh.lt k f⟩) (λk f=>by have:=(an k<|.inl f).1;omega) (da E) (λk f=>(aG E k f).2) (F.row gg.row<|λk f=>⟨(an k<|.inr<|.inr f).2,gg.lt k f⟩) (λk f=>by have:=(an k<|.inr<|.inr f).1;omega) (by simp;omega) (by omega) 100;obtain⟨w,bq⟩:∃w,y (o.take A++tm++o.drop q)=w:=⟨_,rfl⟩;rw[bq]at L;have gk:=U bq;have ed:=F.own dn<|λk f=>ce k (by have:=((aG dn) k f).1;omega);obtain⟨gi,ih,bg,ip,hO,gv,ha⟩:=xV ed cE bm ba cs ho hq;clear E cs cE bm F ba ho hq bq ed an;go_wp2_with fail
   apply L.mono;rintro ac w5⟨v5,rfl,fe,au⟩;obtain⟨xm,hd,rfl⟩:=aA fe;have Bp:=(au.block _ (am gv) id).trans gv;have B:=(au.block _ (am ha) id).trans ha;have p0:=cellAt Bp 0 rfl;have f0:=dE (i:=0) Bp;have q0:=cellAt B 0 rfl;have k0:=dE (i:=0) B;have p1:=cellAt Bp 1 rfl;have f1:=dE (i:=1) Bp;have q1:=cellAt B 1 rfl;have k1:=dE (i:=1) B;have p2:=cellAt Bp 2 rfl;have f2:=dE (i:=2) Bp;have q2:=cellAt B 2 rfl;have k2:=dE (i:=2) B;have p3:=cellAt Bp 3 rfl;have f3:=dE (i:=3) Bp;have q3:=cellAt B 3 rfl;have k3:=dE (i:=3) B;have gf:=U (show∀(i1 i2:M)(z1 z2 u0 u1 u2 u3:aa)(wf:Y),wf=cA (cA (cA (cA (cA (cA w5 (R (z<|G a) i1) z1) (R (z<|G a) i2) z2) (R (z (G a)+1) 0) u0) (R (z (G a)+1) 1) u1) (R (z (G a)+1) 2) u2) (R (z (G a)+1) 3) u3->wf.heap[z (G a)+1]?=H (ar #[u0,u1,u2,u3] 102 (0,0))/\wf.ownsRow (z<|G a) 142 1 (J xl nl hc) nl ((i.take p++i.drop j1).map bA.ptr)/\wf.ownsRow (z<|G a) 142 1 (J xm w hd) w ((o.take A++tm++o.drop q).map bA.ptr)/\qG wf (z<|G a) tm/\t.D wf/\I t.F a wf from by
    rintro i1 i2 z1 z2 u0 u1 u2 u3 wf rfl;have mg:((cA (cA w5 (R (z<|G a) i1) z1) (R (z<|G a) i2) z2)).heap[z (G a)+1]?=H (ar #[aD,aD,aD,aD] 102 (0,0)):=(iw _<|by omega).trans<|(iw _<|by omega).trans B;have dc:I (λk=>k=z (G a)\/k=z (G a)+1) w5 (cA (cA (cA (cA (cA (cA w5 (R (z<|G a) i1) z1) (R (z<|G a) i2) z2) (R (z (G a)+1) 0) u0) (R (z (G a)+1) 1) u1) (R (z (G a)+1) 2) u2) (R (z (G a)+1) 3) u3):=((((((I.refl _ w5).setCell _ _ _<|.inl<|.inl rfl).setCell _ _ _<|.inl<|.inl rfl).setCell _ 0 _<|.inl<|.inr rfl).setCell _ 1 _<|.inl<|.inr rfl).setCell _ 2 _<|.inl<|.inr rfl).setCell _ 3 _<|.inl<|.inr rfl;have jI:=Fk (a':=u0) (b':=u1) (c':=u2) (d':=u3) mg;generalize cA (cA (cA (cA (cA (cA w5 (R (z<|G a) i1) z1) (R (z<|G a) i2) z2) (R (z (G a)+1) 0) u0) (R (z (G a)+1) 1) u1) (R (z (G a)+1) 2) u2) (R (z (G a)+1) 3) u3=wf at*;have eg:∀k,(k=z (G a)\/k=z (G a)+1)->∃hJ,w5.heap[k]?=H (ar hJ 102 (0,0)):=by
     rintro k(rfl|rfl)
     .exact⟨_,Bp⟩
     .exact⟨_,B⟩
    have bu:∀{dk n xs},w5.ownsRow (z<|G a) 142 1 dk n xs->wf.ownsRow (z<|G a) 142 1 dk n xs:=λlg=>dc.own lg (λk f hb=>by
     obtain⟨hJ,eB⟩:=eg k hb;obtain⟨ls,hv⟩:=fR lg f;exact lL eB hv (by decide) rfl)
    refine⟨jI,bu<|au.own gi<|λ_ _ hb=>hb,bu fe,?_,t.fD (t.fD bg au cO) dc<|λk f=>ce k (by rcases f with hb|hb<;>omega),?_⟩
    .refine((ih.aw au).other dc<|λk f=>?_).base (by omega);obtain⟨hJ,eB⟩:=eg k f;exact⟨hJ,_,_,eB,by decide,by decide,by decide⟩
    .exact(((HW.mono (T:=t.F) cO).trans ip (λ_ h=>.inl h)).cr au).trans dc (λk f=>.inr (by rcases f with hb|hb<;>omega)))
   clear fe au Bp B L;go_wp2;obtain⟨r1,r2,r3,r4,r5,r6⟩:=gf _ _ _ _ _ _ _ _ _ rfl;refine cP (zG rfl _ _ (z (G a)+1) _ _ _ _ _ _ rfl r1 ⟨_,_,_,rfl⟩ ⟨_,_,_,rfl⟩ ⟨_,_,_,rfl⟩ ⟨_,_,_,rfl⟩) rfl ?_;have cv:=ae HJ;subst cv;refine⟨xl,nl,hc,xm,w,hd,tm,p,hj,A,q,rfl,?_,?_,?_,hO,r4,r5,r6⟩
   .rw[ae hR,ae hS];exact hP
   .rw[ae hY];exact r2
   .rw[ae gk];exact r3
section
open Shelf
abbrev fh:=cw<|M×M
def Bo(a:fh):fM:=a.map<|λp=>((p.1:Z),aJ (p.2:Z))
def qY(a:fh):eO:=a.map<|λp=>(p.2:Z)
def XJ(a:fh):xA (Bo a) (qY a):=by simp[xA,Bo,qY]
def oY(a:fh):y (qY a)=y a:=by simp[qY]
def A2{a:eO}(h:p.Perm a)(b:Z->Bool):p.any b=a.any b:=by
 rw[wJ,oa,oa];grind
def Pn{a:eO}(h:p.Perm a)(b:Option E)(e:E):pJ p b e=pJ a b e:=by
 cases b with
 |none=>rfl
 |some q=>unfold pJ;grind
def EY{a:eO}(h:p.Perm a):∀(l:cJ)(b:Option E),lY p b l=lY a b l
 |[],_=>rfl
 |e::r,b=>by rw[lY,lY,Pn h,EY h r]
def zK{a:eO}(h:p.Perm a)(l:cJ):dI p l=dI a l:=EY h l none
def KY(v:Option M)(w:Y):cD bz 95 #[.map v] w λe a=>e=aL (.func (.func 157) #[] #[ay<|z<|G w])/\a=cF w (ar #[.map v] 103):=by
 go_in
 go_wp2;go_ret;simp_all
def ug{c b:M}(f:fh)(h:bJ a c n m)(q:n.lW=H b)(i:jw a b (Bo f))(u:y f<=4):cD bz 59 #[ay c] a λt r=>∃l,∃k:eO,t=aL l/\k.Perm (qY f)/\r.ownsRow (z<|G a) 98 1 l (y k) (k.map<|Value.int .u64)/\I az a r:=by
 have s:aO a (R c 16)=H (.map<|H b):=by rw[<-q];exact h.cell rfl
 have e:=(I.refl az a).alloc<|ar #[.map<|H b] 103;have j:=Ln (bm:=z<|G a) (b:=b) (Bo f) (w:=(cF a<|ar #[.map<|H b] 103)) (aB _ rfl) (i.di<|e.block _ i.lt id) (XJ f) (by rw[oY];exact u);clear h q i;go_in
 go_wp2_with fail
 apply(KY _ _).mono;rintro t w⟨rfl,v⟩;subst w;go_wp2_with fail
 apply j.mono;rintro t C⟨l,x,rfl,o,g,p⟩;obtain⟨B,A,rfl⟩:=aA g;have d:=U<|And.intro o (And.intro g p);clear o g p;go_wp2;go_ret;exact⟨_,x,rfl,d.1,er d.2.1 (by simp),e.trans d.2.2<|λm a=>.inr<|by omega⟩
def Bw(f:M)(ad:SR)(u:Z)(v:fh)(C:aa)(Q:cJ)(h:bJ a f ad u)(V:ad.lW=H b)(F:jw a b (Bo v))(h4:y v<=4)(E:kr a ad.memory e)(p:∀u,ct ad.memory=H u->u<z (G a))(D:kr a C Q)(o:∀u,ct C=H u->u<z (G a))(r:dM e)(hl:y e+y Q<=1000000):cD bz 88 #[ay f,C] a λac X=>∃W,ac=aL W/\X.ownsRow (z<|G a) 180 4 W (y<|dI (qY v)<|fH e Q) (aF<|dI (qY v)<|fH e Q)/\I az a X:=by
 have S:=bJ.cellAt h 7 rfl;have m:=UA E D r (by omega) p o;obtain⟨x1,n1,t⟩:=bM E;obtain⟨x2,n2,K⟩:=bM D;have HM:=U<|λ(P:Y)(c:I az a P)=>ug (b:=b) v (h.aw c id) V (F.di<|c.block _ F.lt id) h4;rw[t]at S m;clear h V F E p D o t;subst K;go_in
 go_wp2_with fail
 apply m.mono;rintro ac P⟨v1,rfl,i,k⟩;have q:=HM P k;obtain⟨y1,d1,L⟩:=aA i;have w:=U i;have A:=U k;clear i k m S;subst L;go_wp2_with fail
 apply q.mono;rintro ac w2⟨v2,ms,rfl,T,d,l⟩;have c:=l.own w<|λ_ _ a=>a;have g:=wk ms (da c) (r.fH Q) (aC (xy e Q) hl) (da d) (by have:=T.length_eq;rw[oY]at this;omega) (λu a=>(aG c u a).2)<|λu a=>(aG d u a).2;rw[zK T]at g;obtain⟨y2,d2,N⟩:=aA d;have n:=U<|A.cr l;clear d l c q;subst N;go_wp2_with fail
 apply g.mono;rintro ac w3⟨v3,rfl,j,s⟩;obtain⟨y3,d3,O⟩:=aA j;have x:=U<|er (base':=z<|G a) j n.size;have B:=U<|n.cr s;clear j s g;subst O;go_wp2;go_ret;exact⟨_,rfl,x,B⟩
def pB:fh->Z->Option M
 |[],_=>none
 |p::r,n=>if(p.1:Z)=n then H p.2 else pB r n
def QD(n:Z):∀a:fh,(Bo a).get n=(pB a n).map (λc:M=>aJ c)
 |[]=>rfl
 |p::r=>by
  have b:=QD n r;unfold Bo at b|-;rw[bZ,fM.get,pB];grind
def uH(j:Z)(h:bJ a b n m)(e:n.closed=bU):cD bz 57 #[ay b,ap j] a λg f=>g=aL (dw #[aJ 0,kN 6])/\Below (z<|G a) a f:=by
 have c:=gS h;rw[e]at c;simp only[ir]at c;have d:kN 6=.iface 53 (ap 6):=rfl;rw[d]at c|-;clear h;go_in
 go_wp2_with fail
 apply c.mono;rintro g k⟨rfl,i⟩;go_wp2;go_ret2
 simp_all
def rN(p:Z)(g:fh)(h:bJ a b n m)(v:n.closed=aY)(t:n.lW=H c)(k:jw a c (Bo g)):cD bz 57 #[ay b,.int .i64 p] a λs q=>s=.returned (match pB g p with|some B=>.tuple #[.int .u64 (B:Z),.nilIface]|none=>.tuple #[.int .u64 0,kN 5])/\Below (z<|G a) a q:=by
 have l:=gS h;rw[v]at l;simp only[gC,jk]at l;obtain⟨C,j,o,w,x⟩:=cH QV
 have i:=U (show∀d,Below (z<|G a) a d->aO d (R b 16)=H (.map<|H c)/\(Instr.lookup 103 (.map<|H c) (ap p) bU).run bz d=.ok (dw #[((pB g p).map (λc:M=>aJ c)).getD<|aJ 0,aK ((pB g p).map (λc:M=>aJ c)).isSome]) d fromλd e=>by
  refine⟨?_,?_⟩
  .rw[<-t];exact(h.aw (I.aR (S:=az) e) id).cell rfl
  .rw[<-QD];exact XQ underlying103 underlying3 j o (k.di (e.block _ k.lt)) p)
 clear h t k;have f:cD bz 37 #[ay b] a λs q=>s=aL .nilIface/\Below (z<|G a) a q:=l;have u:kN 5=.iface 53 (ap 5):=rfl;rw[u];cases hg:pB g p with
 |none=>
  rw[hg]at i;clear hg;go_in
  go_wp2_with fail
  apply f.mono;rintro s d⟨rfl,e⟩;obtain⟨A,r⟩:=i d e;simp only[Option.map_none,uR,Option.isSome_none]at r;go_wp2;go_ret2
  simp_all
 |some B=>
  rw[hg]at i;clear hg;go_in
  go_wp2_with fail
  apply f.mono;rintro s d⟨rfl,e⟩;obtain⟨A,r⟩:=i d e;simp only[Option.map_some,mB,Option.isSome_some]at r;go_wp2;go_ret2
  simp_all
end
section
open Conc.Locks
def SR.shut(s:SR):SR:={s with closed:=bU,memory:=aD,l0:=aD,l1:=aD,l2:=aD,l3:=aD,lW:=none}
def Xc(h:bJ a b n 0)(e:n.closed=bU):cD bz 28 #[ay b] a λk d=>k=aL (kN 6)/\bJ d b n 0/\I (λo=>o=b) a d:=by
 have i:=bJ.cellAt h 0 rfl;have l:a.frozen? (R b 0)=aY:=h.free;have c:=h.gx 1;have c5:aO (cA a (R b 0)<|iO 1) (R b 5)=H (aK bU):=c.cell (by rw[<-e];rfl);have j:=bJ.cellAt c 0 rfl;have m:(cA a (R b 0)<|iO 1).frozen? (R b 0)=aY:=c.free;have g:=U<|show bJ (cA (cA a (R b 0)<|iO 1) (R b 0)<|iO 0) b n 0/\I (λo=>o=b) a (cA (cA a (R b 0)<|iO 1) (R b 0)<|iO 0)from⟨c.gx 0,(gW b a).setCell b 0 _<|.inl rfl⟩;clear h c e;go_enter_defers func28,ntmps28
 go_wp2_with(go_at_call 35;refine(lock_free (R b 0) _ i l).mono ?_;rintro k d⟨rfl,rfl⟩)
 refine eH (f:=36) (args:=#[ay b]) (by simp) (by simp[go_sem]) ?_;apply(unlock_deferred (R b 0) .returning _ j m).mono;rintro k q p⟨rfl,rfl,rfl⟩;exact⟨_,gm rfl _ _ _,rfl,g⟩
def Ud(h:bJ a b n 0)(hc:n.closed=aY)(ac:∃C A o,n.memory=J C A o)(S:∃C A o,n.l0=J C A o)(T:∃C A o,n.l1=J C A o)(V:∃C A o,n.l2=J C A o)(W:∃C A o,n.l3=J C A o)(hd:cQ a n.aH j)(t:¬j.aU n.aH b)(hp:Pow a)(al:b≠2)(hl:n.log<18446744073709551616)(hf:n.kB=bU->∃bs,dX (vw j.files) (iQ n.log)=H bs/\y bs<=1000000000000)(hm:y j.eJ<=1000000000000):cD bz 28 #[ay b] a λx B=>x=aL .nilIface/\∃m,fY a B n.aH b j m/\vw m.files=vw j.files/\y m.eJ<=y j.eJ/\bJ B b {n.shut with kB:=aY,kA:=aY} 0:=by
 have c0:=bJ.cellAt h 0 rfl;have f0:a.frozen? (R b 0)=aY:=h.free;obtain⟨d,g⟩:∃d,cA a (R b 0) (iO 1)=d:=⟨_,rfl⟩;have c:bJ d b n 1:=by rw[<-g];exact h.gx 1
 have v:I (λao=>ao=b) a d:=by rw[<-g];exact(gW b a)
 have c5:aO d (R b 5)=H (aK aY):=c.cell (by rw[<-hc];rfl);have c6:=bJ.cellAt c 6 rfl;have c7:=bJ.cellAt c 7 rfl;have N:=bJ.cellAt c 10 rfl;have O:=bJ.cellAt c 11 rfl;have P:=bJ.cellAt c 12 rfl;have Q:=bJ.cellAt c 13 rfl;have aq:=bJ.cellAt c 16 rfl;have bb:d.frozen? (R b 16)=aY:=c.free;have g5:d.frozen? (R b 5)=aY:=c.free;have g7:d.frozen? (R b 7)=aY:=c.free;have au:d.frozen? (R b 10)=aY:=c.free;have av:d.frozen? (R b 11)=aY:=c.free;have ax:d.frozen? (R b 12)=aY:=c.free;have ba:d.frozen? (R b 13)=aY:=c.free;obtain⟨q,k⟩:∃q,cA (cA (cA (cA (cA (cA (cA d (R b 5)<|aK bU) (R b 7) aD) (R b 10) aD) (R b 11) aD) (R b 12) aD) (R b 13) aD) (R b 16) (.map none)=q:=⟨_,rfl⟩;have X:bJ q b n.shut 1:=by have hh:=aT (i:=16) (u:=.map none)<|aT (i:=13) (u:=aD)<|aT (i:=12) (u:=aD)<|aT (i:=11) (u:=aD)<|aT (i:=10) (u:=aD)<|aT (i:=7) (u:=aD)<|aT (i:=5) (u:=aK bU) c;rw[k]at hh;exact hh
 have e:I (λao=>ao=b) a q:=by rw[<-k];exact((((((v.setCell b 5 _<|.inl rfl).setCell b 7 _<|.inl rfl).setCell b 10 _<|.inl rfl).setCell b 11 _<|.inl rfl).setCell b 12 _<|.inl rfl).setCell b 13 _<|.inl rfl).setCell b 16 _<|.inl rfl
 have s:=AE X (hd.aw e<|λao hk x=>t<|x▸hk) t (hp.aw e<|λx=>al x.symm) hl hf hm;obtain⟨E,D,F,K,L⟩:=je X (hd.aw e<|λao hk x=>t<|x▸hk) e g k;obtain⟨mx,mn,mc,em⟩:=ac;obtain⟨bh,bg,bf,ea⟩:=S;obtain⟨bx,bn,bi,eb⟩:=T;obtain⟨cx,cn,cc,ec⟩:=V;obtain⟨dx,dn,dc,ed⟩:=W;rw[em]at c7;rw[ea]at N;rw[eb]at O;rw[ec]at P;rw[ed]at Q;clear h c v hc hd hp hf X e g k em ea eb ec ed;go_enter_defers func28,ntmps28
 go_wp2_with fail
 apply(lock_free (R b 0) _ c0 f0).mono;rintro x B⟨rfl,an⟩;rw[ae K]at an;subst B;go_wp2_with fail
 rw[ae L];apply s.mono;rintro x w2⟨rfl,K2,p,w,r,l⟩;have d0:=bJ.cellAt l 0 rfl;have k0:w2.frozen? (R b 0)=aY:=l.free;have HF:=U (show∃m,fY a (cA w2 (R b 0)<|iO 0) n.aH b j m/\vw m.files=vw j.files/\y m.eJ<=y j.eJ/\bJ (cA w2 (R b 0)<|iO 0) b {n.shut with kB:=aY,kA:=aY} 0 from by have bc:=am E;have ad:¬K2.aU n.aH b:=λo=>(p.aU b o).elim t (λd=>by omega);have h0:fY a q n.aH b j j:=⟨D,F.mono<|λ_ o=>.inl<|.inr o,λ_ o=>.inl o⟩;exact⟨K2,(h0.trans p).set ad 0<|iO 0,w,r,l.gx 0⟩);clear s l p w r t;go_wp2;refine eH (f:=36) (args:=#[ay b]) (by simp) (by simp[go_sem]) ?_;apply(unlock_deferred (R b 0) .returning _ d0 k0).mono;rintro x u' bd⟨rfl,rfl,rfl⟩;exact⟨_,gm rfl _ _ _,rfl,HF⟩
end
structure PR(n:M)(rs:dL):Prop where
 nR:kh rs
 mh:∀r∈rs,dM r
 iX:∀x∈rs.flatten,x.Good
 low:∀x∈rs.flatten,x.bP<=n
def uk(h:w.Good):w.key≠⟨#[]⟩:=λe=>by
 have:=h.Wd;rw[e]at this;simp[ByteArray.size]at this
def PR.keys(h:PR b k):∀x∈k.flatten,x.key≠⟨#[]⟩:=λx a=>uk<|h.iX x a
def Nf{a D:dL}:w∈(k++a++D).flatten↔w∈k.flatten\/w∈a.flatten\/w∈D.flatten:=by
 grind
def PR.B5{C a M' D:dL}(h:PR b (C++a++D))(g:kh M')(j:∀r∈M',dM r)(d:∀x∈M'.flatten,x∈a.flatten):PR b (C++M'++D):=by
 have f:∀x,x∈(C++M'++D).flatten->x∈(C++a++D).flatten:=by grind
 refine⟨SN h.nR g d,λr i=>?_,λx c=>h.iX x<|f x c,λx c=>h.low x<|f x c⟩;rcases aE.1 i with e|e;rcases aE.1 e with e|e;exact h.mh r (by simp[e]);grind
 exact h.mh r<|by simp[e]
def PR.cons(i:PR b k)(t:b<=c)(n:dM e)(m:∀x∈e,x.Good)(g:∀x∈e,(b:Z)<x.bP)(f:∀x∈e,x.bP<=c):PR c (e::k):=by
 refine⟨?_,?_,?_,?_⟩;unfold kh;rw[bC];refine⟨λr h o j p l _=>?_,i.nR⟩;have q:=i.low p<|bE.2 ⟨r,h,l⟩;have s:=g o j;omega;intro r h;rcases bH.1 h with rfl|d;exact n;exact i.mh r d;intro x a;rw[bG,aE]at a;rcases a with d|d;exact m x d;exact i.iX x d;intro x a;rw[bG,aE]at a;rcases a with d|d;exact f x d;have:=i.low x d;omega
theorem PR.Mj(h:PR b k):PR b ([]::k):=h.cons (ai _) dM.nil (by simp) (by simp)<|by simp
def Gu(a:dL)(k:ab):seen ([]::a) k=seen a k:=by
 unfold seen;rw[qy,TK,mz]
def bV(a b c d:cf):dL:=(a.map bA.all).reverse++[cg b,cg c,cg d]
def Ex(a b c d:cf)(t:bA):bV (a++[t]) b c d=t.all::bV a b c d:=by simp[bV]
def lQ(h:i.map bA.all=gR e):cg i=e:=by
 unfold cg;rw[h];exact we e
theorem MT(h:i.isEmpty=bU):cg i=[]:=by
 rw[List.isEmpty_iff]at h;rw[h];rfl
def PR.row(h:PR b k):∀r∈k,gN r:=λr a=>⟨h.mh r a,λe c=>h.keys e<|bE.2 ⟨r,a,c⟩⟩
def eY(t:Z)(a:dL)(k:ab):Option ab:=seen (a.map<|jQ t) k
def yB{C Mqq M' D:dL}(h:Bm (Mqq.map<|jQ m) (M'.map<|jQ m) (D.map<|jQ m))(k:ab):eY m (C++M'++D) k=eY m (C++Mqq++D) k:=by
 unfold eY;grind[UY]
theorem mJ(t:Z)(a:dL)(k:ab):eY t ([]::a) k=eY t a k:=by
 unfold eY;rw[bZ,show jQ t []=[]from rfl];exact Gu _ k
def Rl(h:∀r∈k,r=[])(c:ab):rk (k.map<|jQ m) c=none:=TC (λr a=>by obtain⟨s,b,rfl⟩:=bW.1 a;rw[h s b];rfl) c
def Qa{c:cf}(h:PR b (bV i o r s))(g:c.map bA.all=gR (rO p (r.isEmpty&&s.isEmpty) i o)):dM (cG<|cg o::i.map bA.all)/\dM (rO p (r.isEmpty&&s.isEmpty) i o)/\PR b (bV [] c r s)/\(∀t,(t∈p\/(b:Z)<=t)->∀k,eY t (bV [] c r s) k=eY t (bV i o r s) k)/\y (cg c)<=y (cg i)+y (cg o):=by
 have C:cg c=rO p (r.isEmpty&&s.isEmpty) i o:=lQ g;have a:bV i o r s=[]++((i.map bA.all).reverse++[cg o])++[cg r,cg s]:=by simp[bV]
 have d:bV [] c r s=[]++[rO p (r.isEmpty&&s.isEmpty) i o]++[cg r,cg s]:=by simp[bV,C]
 rw[a]at h;have v:∀m∈i.map bA.all,gN m:=λm a=>h.row m (by grind);have n:gN (cg o):=h.row _ (by simp);have u:kh ((i.map bA.all).reverse++[cg o]):=(bR.1 h.nR).1;obtain⟨A,l,B⟩:=zv (ms:=p) (lowest:=r.isEmpty&&s.isEmpty) v n u;have e:∀x∈[rO p (r.isEmpty&&s.isEmpty) i o].flatten,x∈((i.map bA.all).reverse++[cg o]).flatten:=by intro x f;rw[bG,iB,ee]at f;have:=zM _ _ _ x f;rw[bG,aE]at this;rw[dB,aE,bG,iB,ee];grind[mem_flatten]
 refine⟨A,l,?_,λt w k=>?_,?_⟩;rw[d];exact h.B5 (by unfold kh;simp) (by intro m a;simp only[bH,fO,mu]at a;subst a;exact l) e;rw[a,d];refine yB (B t [cg r,cg s] (w.imp_right<|λq x f=>vR (h.low x<|Nf.2<|.inr<|.inl f) q)<|λj k=>?_) k;rw[mH]at j;exact Rl (by intro m a;simp only[bH,fO,mu]at a;grind[MT]) k;rw[C];have D:=(sZ p (r.isEmpty&&s.isEmpty)<|cg o::i.map bA.all).length_le;have E:=(js p<|cG<|cg o::i.map bA.all).length_le;have j:=(dY<|cg o::i.map bA.all).length_eq;rw[bG,af]at j;have:(i.map bA.all).flatten=cg i:=rfl;rw[this]at j;unfold rO;omega
theorem TZ(l:cw T)(j:M)(h:j<y l):l=l.take j++[l[j]]++l.drop (j+1):=by
 rw[bD,jU,kQ,bN]
theorem Yx(l:cw T){p q:M}(h:p<=q):l=l.take p++(l.drop p).take (q-p)++l.drop q:=by
 have a:l.drop q=(l.drop p).drop (q-p):=by rw[List.drop_drop];grind
 rw[bD,a,bN,bN]
def uq(h:((i++o).map bA.all).Pairwise gX):gX (cg i) (cg o):=by
 rw[aQ,bR]at h;intro x f c g;obtain⟨s,d,a⟩:=mM.1 f;obtain⟨t,e,b⟩:=mM.1 g;exact h.2.2 _ (ot d) _ (ot e) x a c b
def ME{j c q:M}(hu:kp i)(h:kp o)(ho:Over (cg i) (cg o))(hg:∀x,x∈cg i\/x∈cg o->x.Good)(hj:j<y i)(hc:zr o (fg i[j].ks) (fS i[j].ks) c q)(w:r.map bA.all=gR (rO p D [i[j]]<|(o.drop c).take<|q-c)):dM (rO p D [i[j]]<|(o.drop c).take<|q-c)/\dM (cg<|o.take c++r++o.drop q)/\((o.take c++r++o.drop q).map bA.all).Pairwise gX/\(∀(f:Z)(av:dL),(f∈p\/∀x,x∈cg i\/x∈cg o->x.bP<=f)->(D=bU->∀ax,rk (av.map<|jQ f) ax=none)->Bm ([cg i,cg o].map<|jQ f) ([cg<|i.take j++i.drop (j+1),cg<|o.take c++r++o.drop q].map<|jQ f) (av.map<|jQ f))/\Over (cg<|i.take j++i.drop (j+1)) (cg<|o.take c++r++o.drop q)/\(∀x,x∈cg (i.take j++i.drop (j+1))\/x∈cg (o.take c++r++o.drop q)->x∈cg i\/x∈cg o)/\(∀x∈cg r,x∈cg i\/x∈cg o)/\y (cg<|i.take j++i.drop (j+1))+y (cg<|o.take c++r++o.drop q)<=y (cg i)+y (cg o):=by
 have A:cg r=gO p D [cg<|(o.drop c).take<|q-c,i[j].all]:=lQ w;have g:cg [i[j]]=i[j].all:=by simp[cg]
 have E:cg i=cg (i.take j)++i[j].all++cg (i.drop<|j+1):=by grind[TZ,fK]
 have F:cg o=cg (o.take c)++cg ((o.drop c).take<|q-c)++cg (o.drop q):=by grind[Yx,zr.le,fK]
 have hP:=hu.pure i[j]<|ak hj;have W:∀B∈cg (o.take c),∀f∈i[j].all,iP B.key f.key=bU:=by intro B m f k;obtain⟨au,n,l⟩:=mM.1 m;obtain⟨an,hi,rfl⟩:=gq.1 n;(have d:an<c/\an<y o:=by rw[dU]at hi;omega);rw[lC]at l;have K:=(h.pure o[an]<|ak d.2).DH l;have L:=hc.Zj.low an d.2 d.1;have t:=hP.xY k;exact JS (xQ K L) t
 have X:∀B∈i[j].all,∀f∈cg (o.drop q),iP B.key f.key=bU:=by intro B m f k;obtain⟨au,n,l⟩:=mM.1 k;obtain⟨an,hi,rfl⟩:=gq.1 n;(have d:q+an<y o:=by rw[ja]at hi;omega);rw[List.getElem_drop]at l;(have N:q<y o:=by omega);have K:=hc.behind N;have L:=hP.DH m;obtain⟨x,b,al⟩:=(h.pure o[q]<|ak N).Cb;(have t:iP f.key (fg o[q].ks)=aY:=by rcases gB an with rfl|aq;exact(h.pure o[q]<|ak N).xY l;rw[<-al];exact ld<|h.pair N d (by omega) b l);exact JS (xQ L K) t
 have O:((i.take j++([i[j]]++i.drop (j+1))).map bA.all).Pairwise gX:=by have:=hu.Dz;rw[TZ i j hj,bD]at this;exact this
 have Q:((o.take c++((o.drop c).take (q-c)++o.drop q)).map bA.all).Pairwise gX:=by have:=h.Dz;rw[Yx o hc.le,bD]at this;exact this
 have C:=uq O;have T:=uq Q;rw[fK]at C T;rw[g]at C;have P:=(bR.1 (by rw[aQ]at O;exact O)).2.1;have S:=(bR.1 (by rw[aQ]at Q;exact Q)).2.1;have s:=uq P;have V:=uq S;rw[g]at s;have ac:gN (cg (i.take j)++i[j].all++cg (i.drop<|j+1)):=E▸⟨hu.mh,λA he=>uk<|hg A<|.inl he⟩;have ad:gN (cg (o.take c)++cg ((o.drop c).take<|q-c)++cg (o.drop q)):=F▸⟨h.mh,λA he=>uk<|hg A<|.inr he⟩;have u:=ho;rw[E,F]at u;obtain⟨r1,r2,r3,r4,r5,r6⟩:=SM (ms:=p) (lowest:=D) ac ad u (λx b a e=>C x b a<|by simp[e]) (λx b a e=>C x b a<|by simp[e]) s (λx b a e=>T x b a<|by simp[e]) (λx b a e=>T x b a<|by simp[e]) V W X;have ao:∀x∈gO p D [cg<|(o.drop c).take<|q-c,i[j].all],x∈i[j].all\/x∈cg ((o.drop c).take<|q-c):=by intro x b;have:=zM p D _ x b;grind
 have v:dM (gO p D [cg<|(o.drop c).take<|q-c,i[j].all]):=r2.mh.sub (by simp);refine⟨v,?_,?_,?_,?_,?_,?_,?_⟩;rw[fK,fK,A];exact r2.mh;rw[aQ,aQ,bR,bR];refine⟨⟨h.Dz.sublist<|(nA _ _).map _,by rw[w];exact EN v,λx b a e=>?_⟩,h.Dz.sublist<|(kG _ _).map _,λx b a e=>?_⟩;obtain⟨N,l,rfl⟩:=bW.1 b;obtain⟨au,n,rfl⟩:=bW.1 e;exactλB m f k=>r3 B (mM.2 ⟨N,l,m⟩) f (by rw[<-A];grind[mM]);obtain⟨au,n,rfl⟩:=bW.1 e;rcases aE.1 b with b|b;(grind);obtain⟨N,l,rfl⟩:=bW.1 b;exactλB m f k=>r4 B (by rw[<-A];grind[mM]) f<|mM.2 ⟨au,n,k⟩;intro f av k l;simp only[bZ,fW];rw[fK,fK,fK,A,E,F];grind
 rw[fK,fK,fK,A];exact r5;grind[fK]
 grind
 rw[fK,fK,fK,A,E,F];have K:=(sZ p D [cg<|(o.drop c).take<|q-c,i[j].all]).length_le;have L:=(js p<|cG [cg<|(o.drop c).take<|q-c,i[j].all]).length_le;have t:=(dY [cg<|(o.drop c).take<|q-c,i[j].all]).length_eq;rw[bG,bG,iB,ee,af]at t;grind
def Pm(h:Over e L):kh [e,L]:=by
 unfold kh;grind
def DD{C D:dL}(h:kh (C++[e,L]++D)):Over e L:=by
 have a:=(bR.1 (bR.1 h).1).2.1;grind
def PZ{c:cf}{j g q:M}(h:PR b (bV i o r s))(l:kp o)(n:kp r)(u:j<y o)(hcut:zr r (fg o[j].ks) (fS o[j].ks) g q)(e:c.map bA.all=gR (rO p s.isEmpty [o[j]]<|(r.drop g).take<|q-g)):PR b (bV i (o.take j++o.drop (j+1)) (r.take g++c++r.drop q) s)/\(∀t,(t∈p\/(b:Z)<=t)->∀k,eY t (bV i (o.take j++o.drop (j+1)) (r.take g++c++r.drop q) s) k=eY t (bV i o r s) k)/\dM (cg c)/\((r.take g++c++r.drop q).map bA.all).Pairwise gX/\(∀x∈cg c,x.Good)/\y (cg<|o.take j++o.drop (j+1))+y (cg<|r.take g++c++r.drop q)<=y (cg o)+y (cg r):=by
 have a:∀x d:cf,bV i x d s=(i.map bA.all).reverse++[cg x,cg d]++[cg s]:=λx d=>by simp[bV]
 rw[a]at h;have m:∀x,x∈cg o\/x∈cg r->x.Good:=λx f=>h.iX x (Nf.2<|.inr<|.inl<|by grind);obtain⟨A,B,w,C,D,K,E,F⟩:=ME l n (DD h.nR) m u hcut e;refine⟨?_,λt v k=>?_,by rw[lQ e];exact A,w,λx f=>m x<|E x f,F⟩;rw[a];refine h.B5 (Pm D) (λL d=>?_)<|λx f=>?_;simp only[bH,fO,mu]at d;rcases d with rfl|rfl;rw[fK];have:=l.mh.sub (nW (us:=o.take j++o.drop (j+1)) (ts:=o)<|by grind[TZ,append_assoc,sublist_append_right]);rwa[fK]at this;exact B;grind
 rw[a,a];exact yB (C t [cg s] (v.imp_right<|λq x f=>vR (h.low x<|Nf.2<|.inr<|.inl<|by grind) q)<|λd k=>Rl (by intro L a;simp only[bH,fO,mu]at a;subst a;exact MT d) k) k
def PY{a:cf}{j g q:M}(h:PR b (bV i o r s))(l:kp r)(n:kp s)(u:j<y r)(hcut:zr s (fg r[j].ks) (fS r[j].ks) g q)(e:a.map bA.all=gR (rO p bU [r[j]]<|(s.drop g).take<|q-g)):PR b (bV i o (r.take j++r.drop (j+1))<|s.take g++a++s.drop q)/\(∀t,(t∈p\/(b:Z)<=t)->∀k,eY t (bV i o (r.take j++r.drop (j+1))<|s.take g++a++s.drop q) k=eY t (bV i o r s) k)/\dM (cg a)/\((s.take g++a++s.drop q).map bA.all).Pairwise gX/\(∀x∈cg a,x.Good)/\y (cg<|r.take j++r.drop (j+1))+y (cg<|s.take g++a++s.drop q)<=y (cg r)+y (cg s):=by
 have f:∀x c:cf,bV i o x c=((i.map bA.all).reverse++[cg o])++[cg x,cg c]++[]:=λx c=>by simp[bV]
 rw[f]at h;have m:∀x,x∈cg r\/x∈cg s->x.Good:=λx c=>h.iX x (Nf.2<|.inr<|.inl<|by simpa using c);obtain⟨A,B,w,C,D,K,E,F⟩:=ME l n (DD h.nR) m u hcut e;refine⟨?_,λt v k=>?_,by rw[lQ e];exact A,w,λx c=>m x<|E x c,F⟩;rw[f];refine h.B5 (Pm D) (λL d=>?_)<|λx c=>?_;simp only[bH,fO,mu]at d;rcases d with rfl|rfl;rw[fK];have:=l.mh.sub (nW (us:=r.take j++r.drop (j+1)) (ts:=r)<|by grind[TZ,append_assoc,sublist_append_right]);rwa[fK]at this;exact B;grind
 rw[f,f];exact yB (C t [] (v.imp_right<|λq x c=>vR (h.low x<|Nf.2<|.inr<|.inl<|by simpa using c) q)<|λd k=>yM k) k
def yI(s:i.map bA.all=gR e)(p:∀t∈i,Xs a b t)(m:dM e)(g:rq 5 e)(o:∀x∈e,x.Good):∀t∈i,tP t.ks t.cs/\Cu (bS 0 t.cs)/\t.ks=bS 0 t.cs/\y t.all<=100:=by
 intro t q;obtain⟨r,h,x,j,k⟩:=p t q;have l:t.all∈gR e:=by rw[<-s];grind
 have n:=SC g _ l;have c:=BO l;have f:=EO e _ l;have d:∀x∈t.all,x.Good:=λx e=>o x<|c.subset e;refine⟨?_,k.pieces.idx f d (m.sub c) n,k.ks,n⟩;rw[k.ks];exact k.pieces.qQ f d<|m.sub c
def Hl(h:i.map bA.all=gR e)(g:∀t∈i,Xs a b t)(d:dM e)(c:rq 5 e)(f:∀x∈e,x.Good):kp i:=⟨λt j=>(yI h g d c f t j).1,by rw[lQ h];exact d,by rw[h];exact EN d⟩
def iG(n:Z)(l:cJ):eO:=le 8 n++((y l:Z)::l.flatMap oe)
def Dv(n:Z)(l:cJ):eO:=iM (le 4 (y<|iG n l)++le 4 (ng<|iG n l))++iG n l
def CL(h:w.Good):y (oe w)<=35:=by
 have:=ul h;unfold Ce at this;rw[af]at this;omega
def pN{l:cJ}(h:∀x∈l,x.Good):y (l.flatMap oe)<=35*y l:=by
 induction l with
 |nil=>simp
 |cons x r c=>
  have a:=CL (h x<|by simp);have d:=c (λa b=>h a<|by simp[b]);rw[dF,af,aS];omega
structure YN(w0 w:Y)(hv bv:aa)(hs bs:eO):Prop where
 head:eP w (z<|G w0) hv hs
 body:eP w (z<|G w0) bv bs
 ne:∀k,ct hv=H k->ct bv≠H k
 aw:I az w0 w
def YN.wrote{e c:eO}(h:YN a f d u p e)(j:eL f C d N)(m:eP C (z<|G a) N c):YN a C N u c e:=by
 have i:=I.eT j;refine⟨m,i.own h.body<|λk b o=>h.ne k o b,λk b g=>?_,h.aw.trans i<|λk b=>.inr (h.head.lt k b).1⟩;rcases j.ur with l|⟨n,l,q⟩;exact h.ne k (l.symm.trans b) g;rw[l]at b;cases b;have:=(h.body.lt _ g).2;omega
def OV(l:cJ)(au a bn:M)(w:Y)(hT:Steps w)(hg:au<z (G w))(hc:∀cq cp,(aF l)[cq]?=H cp->aO w (R au<|a+cq)=H cp)(k:0<y l)(c:∀an∈l,an.Good)(hl:y l<=8):cD bz 152 #[bB au a (y l) bn] w λaq w'=>∃v',aq=aL v'/\eP w' (z<|G w) v' (Dv (l[0]'k).bP l)/\I az w w':=by
 obtain⟨i0,bt,ce,ch,cj⟩:=cH qw;have u:=c _<|ak k;have co:=pN c;have bo:aO w (R au<|a+3)=H (aJ (l[0]'k).bP):=by have:=hc _ _ (eE l 0 k).2.2.2;grind
 obtain⟨r,hn⟩:∃r,(l[0]'k).bP=r:=⟨_,rfl⟩;have K:=u.b0;have L:=u.b1;rw[hn]at K L bo|-;have bx:=pG (baseqq:=z<|G w) (v:=aD) (bs:=[]) r (w:=w) (eP.nil _ _) (ai _) (by simp) K L;have e1:IntKind.u8.wrap (y l:Z)=y l:=by rw[IntKind.wrap_u8];omega
 obtain⟨HC,HG,HT⟩:=dA hc c hT;clear hc c u hn hT;go_in
 go_wp2_with fail
 apply bx.mono;rintro aq w1⟨v1,rfl,A,X⟩;have C:I az w w1:=(I.eT X).mono (λav g=>by simp[ct]at g);have bv:=uf (z<|G w) v1 ([]++le 8 r) (y l:Z) w1 A C.size (by simp[cC]);have bb:=U A;have bi:=U C;clear A C X;go_wp2_with fail
 apply bv.mono;rintro aq w2⟨v2,rfl,N,ac⟩;have bk:=U<|bi.trans (I.eT ac)<|λav g=>.inr (bb.lt av g).1;have bd:=U N;clear N ac;go_wp2;go_loopw [3,19] (λo i wr=>∃m:M,m<=y l/\i=ap m/\eP wr (z<|G w) o (le 8 r++((y l:Z)::(l.take m).flatMap oe))/\I az w wr) (λ_ i _=>y l-(intOf i).toNat)
 case atStart=>exact⟨0,bj _,rfl,by simpa using ae bd,bk⟩
 case round=>
  obtain⟨m,hm,rfl,b,d⟩:=hrel;have cc:=d.size;by_cases q:m<y l
  .have j:=HG l[m]<|ak q;have e:=eE l m q;have D:aO wr (R au<|a+m*4)=H (aj l[m].key):=d.cell (HC _ _ e.1) id hg;have F:aO wr (R au<|a+m*4+1)=H (aj l[m].val):=d.cell (by rw[aV];exact HC _ _ e.2.1) id hg;have O:aO wr (R au<|a+m*4+2)=H (aK l[m].del):=d.cell (by rw[aV];exact HC _ _ e.2.2.1) id hg;have P:aO wr (R au<|a+m*4+3)=H (aJ l[m].bP):=d.cell (by rw[aV];exact HC _ _ e.2.2.2) id hg;have o:y (le 8 r++((y l:Z)::(l.take m).flatMap oe))<=1000:=by
    have Q:=pN (l:=l.take m)<|λan hx=>HG an<|fJ hx;grind[length_append,length_cons,cC]
   have B:=U (show(le 8 r++((y l:Z)::(l.take m).flatMap oe))++oe l[m]=le 8 r++((y l:Z)::(l.take<|m+1).flatMap oe)from by
    rw[ah q,gd];simp)
   clear e;generalize l[m]=an at*;have f:=QO (z<|G w) u3 (le 8 r++((y l:Z)::(l.take m).flatMap oe)) an (cF wr<|ar #[aj an.key,aj an.val,aK an.del,aJ an.bP] 180) (b.alloc _) (by simp;omega) (by omega) (by have:=j.MS;omega) (by have:=j.val;omega);generalize(le 8 r++((y l:Z)::(l.take m).flatMap oe))=cm at*;have x:=b.lt;have s:=U d;clear b d j o;obtain⟨V,W,T,S⟩:=an;simp only at D F O P f;unfold E.value at f;simp only at f;go_wp2_with fail
   apply f.mono;rintro aq w3⟨v3,rfl,n,i⟩;have p:=U n;have t:=U i;clear n i;go_wp2;go_roundw;case rel=>
    refine⟨m+1,q,by go_num,by rw[<-ae B];exact p,?_⟩;exact(s.alloc _).trans (I.eT t)<|λav g=>.inr (x av g).1
   case measure=>simp[intOf];omega
  .have bu:m=y l:=by omega
   subst bu;rw[aX]at b;have bp:y (iG r l)<=1000:=by unfold iG;rw[af,aS,cC];omega
   have s:0<y (iG r l):=by unfold iG;rw[af,cC];omega
   have f:eP wr (z<|G w) u3 (iG r l):=b;obtain⟨bg,bc,cd,_,_,_⟩:=uE f s;subst cd;obtain⟨e,j⟩:∃e,y (iG r l)=e:=⟨_,rfl⟩;have F:=U (show Dv r l=iM (le 4 (e:M)++le 4 (ng<|iG r l))++iG r l by rw[<-j];rfl);rw[j]at bp s;have bT:=jL (baseqq:=z<|G w) (v:=aD) (bs:=[]) (e:M) (w:=wr) (eP.nil _ _) cc (by simp) (by omega) (by omega);have e2:IntKind.u32.wrap (e:Z)=e:=sR (by omega) (by omega);have HO:=U f;have bl:=U d;rw[j];have p:=U j;clear b f d j;generalize iG r l=ao at*;go_wp2_with fail
   apply bT.mono;rintro aq w3⟨v3,rfl,n,i⟩;have hA3:YN w w3 v3 (bB bg 0 e bc) ([]++le 4 (e:M)) ao:=by
    have V:I az wr w3:=(I.eT i).mono (λav g=>by simp[ct]at g);have S:eP wr (z<|G w) (bB bg 0 e bc) ao:=by have:=ae HO;rw[ae p]at this;exact this
    refine⟨n,V.own S<|λ_ _ cs=>cs,λav g hb=>?_,bl.cr V⟩;rcases i.ur with cn|⟨cl,cn,hy⟩
    .rw[cn]at g;cases g
    .rw[cn]at g;cases g;have:=(S.lt _ hb).2;omega
   have B:∀W,I az w W->Steps W:=λW a=>HT.below (a.below (ai _) cO) HT.lt;have cb:=sA (bB bg 0 e bc) ao w3 (B _ hA3.aw) (eP.bytes hA3.body) (by rw[ae p];omega);have t:=U hA3;have bh:=U B;clear hA3 n i B;go_wp2_with fail
   apply cb.mono;rintro aq w4⟨rfl,D⟩;subst w4;have br:=zR ao;have bq:=Ci ao;have T:=jL (ng ao) t.head t.aw.size (by simp[cC]) br bq;generalize ng ao=cB at*;go_wp2_with fail
   apply T.mono;rintro aq w4⟨v4,rfl,O,D⟩;have hA4:=t.wrote D O;have ca:=Eu (bh _ hA4.aw) hA4.head hA4.aw.size (by simp[cC]);have ax:=U hA4;clear O D hA4;go_wp2_with fail
   apply ca.mono;rintro aq w5⟨v5,rfl,P,ad⟩;have hA5:=ax.wrote ad P;have x:y ((([]++le 4 (e:M))++le 4 cB)++le 4 (ng<|([]++le 4 (e:M))++le 4 cB))=12:=by simp[cC]
   obtain⟨hx,bs,W⟩:=aA hA5.head;rw[x]at W;subst W;have ck:=hA5.aw.size;have o:=U hA5;have ba:=U x;clear P ad hA5 x;go_wp2_with(first
    |(at_builtin;go_loud(refine bO _ rfl (.tmp 36) (.tmp 37) 135 rfl (z (G w)) 5 i0 (.int .u8 0) 1 1 underlying135 bt ce ch cj rfl (by decide) (.slice hx 12 bs) 12 (((([]++le 4 (e:M))++le 4 cB)++le 4 (ng (([]++le 4 (e:M))++le 4 cB))).map (Value.int .u8)) rfl (by have h0:=o.head;unfold eP at h0;rw[ae ba]at h0;exact h0) (R bg 0) e bc (ao.map (Value.int .u8)) rfl (by rw[cV,ae p,rF]) (tF (eP.bytes o.body)) (by intro cp hu;simp only[bW]at hu;obtain⟨cl,_,rfl⟩:=hu;rfl) (by omega) (by omega) ck ?_;intro v6 w6 Q al;have bf:=U Q;have bm:=U al;clear Q al)))
   go_ret;refine⟨_,rfl,?_,o.aw.trans (I.eT bm)<|λav g=>.inr (o.head.lt av g).1⟩;rw[ae F];refine eP.of bf ?_ ?_
   .rw[af,gy,ae p,af,cC,cC]
   .unfold iM;simp
def MD(N a c bl:M)(B b:eO){w:Y}(hT:Steps w)(bo:0<y B)(hB:y B<=100000)(hR:y b<=1000000000)(hL:bl=12+y B+y b)(bq:bl<=c)(cb:c<=9223372036854775807)(hb:Bytes w (bB N a bl c) (iM (le 4 (y B)++le 4 (ng B))++B++b)):cD bz 181 #[bB N a bl c] w λac w'=>∃bk bs,ac=aL (dw #[bB N (a+12) (y B)<|c-12,bB N bk (y b) bs,aK bU])/\y b<=bs/\bs<=9223372036854775807/\Bytes w (bB N (a+12) (y B)<|c-12) B/\Bytes w (bB N bk (y b) bs) b/\I az w w':=by
 have C:N<z (G w):=hb.lt (by intro ac;have:=bX y ac;grind) N rfl;have D:y (iM<|le 4 (y B)++le 4 (ng B))=12:=by simp[iM,cC]
 have j:y (iM (le 4 (y B)++le 4 (ng B))++B++b)=bl:=by rw[af,af,D,hL]
 rw[<-j]at hb;have g:=hb.take (n:=12) (by rw[j];omega);have e:=hb.Cf (n:=12) (by rw[j];omega);rw[bD,iJ (by omega),cZ<|by omega]at g;rw[j,bD,List.drop_append_of_le_length (by omega),vP (by omega),cU]at e;obtain⟨d,hM⟩:∃d,bl-12=d:=⟨_,rfl⟩;obtain⟨L,hC⟩:∃L,c-12=L:=⟨_,rfl⟩;rw[hM,hC]at e;have x:y (B++b)=d:=by rw[af];omega
 rw[<-x]at e;have o:=e.take (n:=y B) (by simp);rw[pX]at o;have A:=e.Cf (n:=y B) (by simp);rw[sN,x]at A;have bh:=xB N a c (le 4 (y B)++le 4 (ng B)) hT (by simp[cC];omega) (by simp[cC]) (by grind[cC]);have ba:y (le 4 (y B)++le 4 (ng B))=8:=by simp[cC]
 rw[ba]at bh;have s:Bytes w (bB N a 8 c) (le 4 (y B)++le 4 (ng B)):=by rw[<-D]at g;have q:=g.take (n:=8) (by omega);(have e8:(iM<|le 4 (y B)++le 4 (ng B)).take 8=le 4 (y B)++le 4 (ng B):=by unfold iM;rw[iJ (by omega),cZ<|by omega]);rw[e8]at q;exact q
 have al:d-y B=y b:=by omega
 obtain⟨f,i⟩:∃f,y B=f:=⟨_,rfl⟩;obtain⟨RL,l⟩:∃RL,y b=RL:=⟨_,rfl⟩;obtain⟨cB,p⟩:∃cB,ng B=cB:=⟨_,rfl⟩;have u:∀W,I az w W->cD bz 217 #[bB N (a+12) f L] W λac w'=>ac=aL (dq cB)/\w'=W:=by intro W hW;have q:=hW.below (ai _) cO;rw[<-i,<-p];exact sA _ B W (hT.below q hT.lt) (o.below q (λbp r=>by cases r;exact C))<|by omega
 have an:=zR B;have ao:=Ci B;rw[p]at an ao;obtain⟨P,S,X,bt⟩:=gH s u o A;rw[i,l]at al hL;rw[i]at bo hB;rw[l]at hR;obtain⟨k,Q,bn⟩:=dA i l p;have e1:(12:Z)<=(bl:Z):=by omega
 have e2:(bl:Z)<=(c:Z):=by omega
 have e3:¬(bl:Z)<12:=by omega
 have e4:¬(c=12):=by omega
 have e5:¬(c-12=0):=by omega
 have e6:(12:Z)<=(c:Z):=by omega
 have e7:(f:Z)<=(d:Z):=by omega
 have e8:(f:Z)<=(L:Z):=by omega
 have e9:¬((d:Z)<(f:Z)):=by omega
 have bu:IntKind.u64.wrap (f:Z)=f:=by rw[gZ];omega
 have bv:IntKind.u64.wrap (d:Z)=d:=by rw[gZ];omega
 have bx:(d:Z)<=(L:Z):=by omega
 have br:∀(cd:Bool)(w:Y),(Op.unary .not<|aK cd).run bz w=.ok (aK<|!cd) w:=λ_ _=>rfl;have ca:RL+f<=L:=by omega
 have bT:L<=9223372036854775807:=by omega
 clear hb g e s u o A hT i l p hL j x D ba;rw[ae k,ae Q,hC];go_in
 go_wp2_with fail
 apply bh.mono;rintro ac K⟨rfl,m⟩;have bf:I az w K:=I.aR m;have ax:=nr (P.below m (λbp r=>by cases r;exact C)) (by intro bp r;cases r;exact ag C m.size);have T:=U bf;clear m bf;go_wp2_with fail
 apply ax.mono;rintro ac w2⟨rfl,t,F⟩;have bg:I az K w2:=by rw[F];exact(cK _ K)
 have cc:z (G K)<z (G w2):=by rw[F];simp
 have bi:=si (z<|G K) (f:M) (le 4<|ng B) w2 (by rw[<-ae k];exact t) (kE.le 4 _) (by simp[cC]) (by omega) (by omega);have bm:=U bg;clear t F bg ax;go_wp2_with fail
 apply bi.mono;rintro ac w3⟨rfl,bb,aq⟩;have v:=si (z<|G K) cB [] w3 (by rw[<-ae bn];grind) (by intro cd hx;cases hx) (by simp) an ao;have au:=U aq;clear bb aq bi;go_wp2_with fail
 apply v.mono;rintro ac O⟨rfl,bc,av⟩;have E:I az w O:=by have h3:I (λbp=>bp=z (G K)) w2 O:=(fm au).trans (fm av)<|λ_ h=>.inl h;exact(T.cr bm).trans h3<|λbp r=>.inr (by have:=T.size;omega)
 have bd:∀W,W.heap=O.heap->W.os=O.os->W.tape=O.tape->W.output=O.output->cD bz 217 #[bB N (a+12) f L] W λac w'=>ac=aL (dq cB)/\w'=W:=λW b c h3 d=>S W (E.of_heap<|by rw[b,c,h3,d]);have V:=U E;clear bc av v E;by_cases ad:L=f;(·(obtain rfl:RL=0:=by omega);(obtain rfl:d=L:=by omega);subst ad;clear al;(go_wp2_with fail);(go_quiet(first|(go_at_call 217;refine Calls.quiet_of_same (bd _ rfl rfl rfl rfl))));go_wp2;(go_ret3);refine⟨a+12,0,rfl,ai _,by omega,?_,?_,V.of_heap rfl⟩;have h:=ae X;rw[ae k]at h;exact h;obtain rfl:=aP Q;exact .inr ⟨N,a+12,0,rfl,ai _,λbp r=>absurd r<|ft bp⟩);(have q:¬(L-f=0):=by omega);have d2:¬(L=f):=ad;(go_wp2_with fail);(go_quiet(first|(go_at_call 217;refine Calls.quiet_of_same (bd _ rfl rfl rfl rfl))));go_wp2;(go_ret3);refine⟨a+12+f,L-f,rfl,by omega,by omega,?_,?_,V.of_heap rfl⟩;have h:=ae X;rw[ae k]at h;exact h;grind[ae]
