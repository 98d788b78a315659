import Derived.BigCall
import Derived.BigGuard
import Derived.CellFam
import Derived.Ground.MpProg
import Derived.Ground.NamesProg
import Derived.Lib.AppendIntMem
import Derived.Lib.Hide
import Derived.Lib.ItoaLen
import Derived.Lib.ItoaMem
import Derived.Lib.ItoaWalk
import Derived.Lib.Walk
import Derived.Shelf.Pu.Clone
import Derived.Shelf.Pu.ParseUintPublic10
import Derived.Shelf.Sort.Plain
import Derived.Shelf.Strconv.Itoa1
import Derived.Shelf.Strconv.Itoa2
import Derived.Test.YtbiejblbclolmaaGreatDoorC3
open _root_ renaming List.length→y,Option.some→H,Array.size→z,Go.World.heap→G,Go.Value.ownBlock→cI,Go.World.cell?→aW,Go.World.setCell→cH,Go.World.alloc→dd,Bool.false→bw,Bool.true→cf,Nat→M,Int→U,List→ci,Go.Calls→cY,Go.undef→iM,Go.Proofs.Tryz.prog→bA,Go.Value.slice→I,Go.Value.string→am,Go.Value.bool→aM,Go.Value.pointer→dC,Go.Value.tuple→dA,Go.Value.agg→dL
namespace Go.Proofs.YtbiejblbclolmaaGreatDoor
open ChangeShapes WideShapes RowKit Proofs.Tryz List
set_option maxHeartbeats 16000000
set_option linter.all false
set_option maxRecDepth 100000
variable{a f A:Y}{b c i l F V:M}{d t L:ab}{e:cU}{g x:DK}{k:U}{m:dX}{n:eF}{o:fh}{r:ae}{B:ix}{C:mM}{P:ci aX}
section
open Shelf
def Nu:Go.Shelf.Ren:=⟨λ|283=>200|n=>n,λ|3=>3|9=>9|4=>4|n=>n,λ|n=>n⟩
def Tryz.lays283:Go.Proofs.Lays.n283 bA Nu:={mixed:=by kernel_rfl,f283:=func200.trans (bS H<|by kernel_rfl),t3:=underlying3,a3:=isAgg3,z3:=sizeOf3,v3:=zeroValue3,t4:=underlying4,a4:=isAgg4,z4:=sizeOf4,v4:=zeroValue4,t9:=underlying9,a9:=isAgg9,z9:=sizeOf9,v9:=zeroValue9}
def Nt:Go.Shelf.Ren:=⟨λ|284=>201|129=>199|317=>242|318=>243|n=>n,λ|53=>74|3=>3|212=>371|0=>0|4=>4|46=>23|5=>5|9=>9|n=>n,λ|17=>2|n=>n⟩
def Tryz.lays284:Go.Proofs.LaysM.n284 bA Nt:={mixed:=by kernel_rfl,f129:=func199.trans (bS H<|by kernel_rfl),f284:=func201.trans (bS H<|by kernel_rfl),f317:=func242.trans (bS H<|by kernel_rfl),f318:=func243.trans (bS H<|by kernel_rfl),t0:=underlying0,a0:=isAgg0,z0:=sizeOf0,v0:=zeroValue0,t3:=underlying3,a3:=isAgg3,z3:=sizeOf3,v3:=zeroValue3,t4:=underlying4,a4:=isAgg4,z4:=sizeOf4,v4:=zeroValue4,t5:=underlying5,a5:=isAgg5,z5:=sizeOf5,v5:=zeroValue5,t9:=underlying9,a9:=isAgg9,z9:=sizeOf9,v9:=zeroValue9,t46:=underlying23,a46:=isAgg23,z46:=sizeOf23,v46:=zeroValue23,t53:=underlying74,a53:=isAgg74,z53:=sizeOf74,v53:=zeroValue74,t212:=underlying371,a212:=isAgg371,z212:=sizeOf371,v212:=zeroValue371,g17:=by kernel_rfl,i0:=by kernel_rfl,i3:=by kernel_rfl,i4:=by kernel_rfl,i5:=by kernel_rfl,i9:=by kernel_rfl,i46:=by kernel_rfl,i53:=by kernel_rfl,i212:=by kernel_rfl,m17:=by kernel_rfl}
def Ns:Go.Shelf.Ren:=⟨λ|285=>202|n=>n,λ|37=>86|53=>74|3=>3|4=>4|51=>67|9=>9|5=>5|0=>0|n=>n,λ|n=>n⟩
def Tryz.lays285:Go.Proofs.Lays.n285 bA Ns:={mixed:=by kernel_rfl,f285:=func202.trans (bS H<|by kernel_rfl),t0:=underlying0,a0:=isAgg0,z0:=sizeOf0,v0:=zeroValue0,t3:=underlying3,a3:=isAgg3,z3:=sizeOf3,v3:=zeroValue3,t4:=underlying4,a4:=isAgg4,z4:=sizeOf4,v4:=zeroValue4,t5:=underlying5,a5:=isAgg5,z5:=sizeOf5,v5:=zeroValue5,t9:=underlying9,a9:=isAgg9,z9:=sizeOf9,v9:=zeroValue9,t37:=underlying86,a37:=isAgg86,z37:=sizeOf86,v37:=zeroValue86,t51:=underlying67,a51:=isAgg67,z51:=sizeOf67,v51:=zeroValue67,t53:=underlying74,a53:=isAgg74,z53:=sizeOf74,v53:=zeroValue74}
end
section
open Shelf Go.Sort
def Pow(w:Y):Prop:=Lib.TabIs bA w "internal/strconv.uint64pow10" .u64 Lib.pow10Tab
def MN:prog.globalNamed "internal/strconv.uint64pow10" =H 2:=by kernel_rfl
def Pow.dG{w w':Y}(h:Pow w)(a:w'.heap[2]?=w.heap[2]?):Pow w':=by
 unfold Pow Lib.TabIs World.var? at*;rw[MN]at*;grind
def Pow.lt(h:Pow a):2<z (G a):=by
 unfold Pow Lib.TabIs World.var? at h;rw[MN]at h;grind
def Pow.aj{S:fh}{w w':Y}(h:Pow w)(c:Z S w w')(a:¬S 2):Pow w':=h.dG<|c.block _ h.lt a
def yZ(u:M):ae:=⟨(Lib.decDigits u).toArray⟩
def Hz(u:M)(c:u<18446744073709551616)(v:Pow a):cY bA 134 #[aG u,aq 10] a λm e=>m=aN (am<|yZ u)/\Below (z<|G a) a e:=by
 by_cases f:u<100;(.have b:∀W,cY bA 200 #[aq u] W λm e=>m=aN (am<|yZ u)/\e=W:=λW=>Any.internal_strconv_small Tryz.lays283 u f W;(have d:(u:U)<100:=by omega);(have g:IntKind.i64.wrap (u:U)=(u:U):=by rw[bP];omega);(go_in);(go_wp2_with(go_at_call 200;refine(b _).mono ?_;rintro m e⟨rfl,rfl⟩));go_ret;exact⟨rfl,Below.refl _ _⟩)
 .have l:1<=u:=by omega
  have s:Lib.nDigits u<=20:=by have:=Lib.numDigits_eq u l c;split at this<;>omega
  have i:prog.arrayLen 332=24:=by kernel_rfl
  have w:∀W,(Instr.sliceAt 332 (aD<|z<|G a) none (H<|aq (Lib.nDigits u:U)) none).run bA W=.ok (bI (z<|G a) 0 (Lib.nDigits u) 24) W:=λW=>by
   rw[run_sliceAt_array_h W 332 (R (z<|G a) 0) (by kernel_rfl) .i64 (Lib.nDigits u:U) (by omega) (by rw[i];omega)];rw[i];have q:(sizeOf<|prog.elem 332).run bA W=.ok 1 W:=by kernel_rfl
   rw[q];simp[Result.andThen,slicedAt,Lib.add_plain]
  have g:=Lib.holds_zero0 a 332 (Lib.nDigits u) (by omega);have j:cY bA 202 #[bI (z<|G a) 0 (Lib.nDigits u) 24,aG u] (dd a<|ay Lib.zeros24 332) λm e=>
   m=aN (dA #[])/\(∃(n:M)(b:Array UInt8),e=(putRow (λ(f:UInt8)=>td (f.toNat:U)) (dd a<|ay Lib.zeros24 332) (z<|G a) 0 b).drewN n/\∃o,Lib.FmtInv (Lib.nDigits u) u 0 o b):=by
    have:=Any.internal_strconv_formatBase10 Tryz.lays285 (z<|G a) 0 24 u (Array.replicate (Lib.nDigits u) 0) (dd a<|ay Lib.zeros24 332) g (by rw[nY];exact Lib.lt_pow_nDigits u) c (by rw[nY];omega);rw[nY]at this;apply this.mono;grind
  have r:∀W,Pow W->cY bA 201 #[aG u] W λm e=>m=aN (aq<|Lib.nDigits u)/\e=W:=λW a=>Any.internal_strconv_numDigits Tryz.lays284 u l c W a;have k:=r (dd a<|ay Lib.zeros24 332)<|Lib.tabIs_alloc v _;have p:=X g;have A:(100:U)<=(u:U):=by omega
  have d:=X (show∀(n:M)(b:Array UInt8),(∃o,Lib.FmtInv (Lib.nDigits u) u 0 o b)->(convert 86 9<|bI (z<|G a) 0 (Lib.nDigits u) 24).run bA ((putRow (λ(f:UInt8)=>td (f.toNat:U)) (dd a<|ay Lib.zeros24 332) (z<|G a) 0 b).drewN n)=.ok (am<|yZ u) ((putRow (λ(f:UInt8)=>td (f.toNat:U)) (dd a<|ay Lib.zeros24 332) (z<|G a) 0 b).drewN n)/\Below (z<|G a) a ((putRow (λ(f:UInt8)=>td (f.toNat:U)) (dd a<|ay Lib.zeros24 332) (z<|G a) 0 b).drewN n)from by
   rintro n b⟨o,hF⟩;constructor
   .have h:=wI (P:=bA) ((putRow (λ(f:UInt8)=>td (f.toNat:U)) (dd a<|ay Lib.zeros24 332) (z<|G a) 0 b).drewN n) 86 9 5 (R (z<|G a) 0) 24 (Lib.decDigits u) (by kernel_rfl) (by kernel_rfl) (by kernel_rfl) (λx q=>by
     rw[Lib.row_is_numeral hF x q,Lib.add_plain,World.cell?_drewN];exact cell?_putRow (λ(f:UInt8)=>td (f.toNat:U)) _ (z (G a)) 0 _ b p (by rw[hF.size,nY]) x (by rw[hF.size];rw[Lib.decDigits_length]at q;exact q))
    rw[Lib.decDigits_length]at h;exact h
   .obtain⟨x,q⟩:=Lib.fin_at a (ay Lib.zeros24 332) b n 0;rw[q];exact Lib.below_grow _ a (ag _) n x)
  unfold Lib.zeros24 at*;go_in
  go_wp2_with(first
   |(go_at_call 201;refine k.mono ?_;rintro m B⟨rfl,rfl⟩)
   |(go_at_call 202;refine j.mono ?_;rintro m C⟨rfl,n,b,rfl,hF⟩;have t:=(d n b hF).1;have HB:=X (d n b hF).2))
  go_ret;exact⟨rfl,HB⟩
def qK(u:M)(b:u<18446744073709551616)(d:Pow a):cY bA 81 #[aG u,aq 10] a λf e=>f=aN (am<|yZ u)/\Below (z<|G a) a e:=by
 have h:=Hz u b d;go_in
 go_wp2_with(go_at_call 134;refine h.mono ?_;rintro f g⟨rfl,c⟩;have HB:=X c)
 go_ret;exact⟨rfl,HB⟩
end
def QR(l:ci UInt8):M:=l.foldl (λa d=>a*10+(d.toNat-48)) 0
def rS(u:M):QR (Lib.decDigits u)=u:=by
 induction u using Nat.strongRecOn with
 |ind u a=>
  rw[Lib.decDigits];split
  .rename_i h;unfold QR;grind[UInt8.toNat_ofNat']
  .rename_i h;have:=a (u/10) (by omega);unfold QR at*;rw[gd,this];grind[UInt8.toNat_ofNat']
def ui:ae:=⟨#[116,97,98,108,101,45]⟩
def SX:ae:=⟨#[108,111,103,45]⟩
def dE:ae:=⟨#[115,116,97,116,101]⟩
def ik:ae:=⟨#[115,116,97,116,101,46,110,101,119]⟩
def fG(u:M):ae:=ui++yZ u
def dj(u:M):ae:=SX++yZ u
def OI(a b:ae):(a++b).data.toList=a.data.toList++b.data.toList:=by simp
theorem tv{b:ae}(h:r=b):r.data.toList=b.data.toList:=by rw[h]
theorem we(u:M):(fG u).data.toList=[116,97,98,108,101,45]++Lib.decDigits u:=by unfold fG;rw[OI];rfl
theorem tG(u:M):(dj u).data.toList=[108,111,103,45]++Lib.decDigits u:=by unfold dj;rw[OI];rfl
theorem oh(h:fG b=fG c):b=c:=by
 have:=tv h;rw[we,we,tX]at this;rw[<-rS b,this,rS]
theorem gI(u v:M):fG u≠dj v:=by
 grind[tv,we,tG]
theorem mV(u:M):fG u≠dE:=by
 intro h;have:=tv h;rw[we]at this;simp[dE]at this
theorem pF(u:M):fG u≠ik:=by
 intro h;have:=tv h;rw[we]at this;simp[ik]at this
theorem ke(u:M):dj u≠dE:=by
 intro h;have:=tv h;rw[tG]at this;simp[dE]at this
theorem ut(u:M):dj u≠ik:=by
 intro h;have:=tv h;rw[tG]at this;simp[ik]at this
def qw:dE≠ik:=by
 intro h;have:=tv h;simp[dE,ik]at this
def rF(u:M)(h:u<18446744073709551616):(yZ u).size<=20:=by
 have a:(yZ u).size=y (Lib.decDigits u):=by simp[yZ,ByteArray.size]
 rw[a,Lib.decDigits_length];exact Lib.nDigits_le20 u h
def CJ(u:M)(b:u<18446744073709551616)(d:Pow a):cY bA 128 #[aG u] a λf e=>f=aN (am<|fG u)/\Below (z<|G a) a e:=by
 have h:=qK u b d;have g:=rF u b;clear d;go_in
 go_wp2_with(go_at_call 81;refine h.mono ?_;rintro f i⟨rfl,c⟩;have HB:=X c;clear c)
 go_ret;exact⟨rfl,HB⟩
def zv(u:M)(b:u<18446744073709551616)(d:Pow a):cY bA 40 #[aG u] a λe w'=>e=aN (am<|dj u)/\Below (z<|G a) a w':=by
 have h:=qK u b d;have f:=rF u b;clear d;go_in
 go_wp2_with(go_at_call 81;refine h.mono ?_;rintro e g⟨rfl,c⟩;have HB:=X c;clear c)
 go_ret;exact⟨rfl,HB⟩
def ES{e cut f g:U}(h:lZ a b (dC none) e cut f g c i l d C):cY bA 156 #[aD b] a λm k=>m=aN (aM bw)/\k=a:=by
 have j:=cellAt h.box 0 rfl;clear h;go_in
 go_wp2;go_ret;simp_all
def DI(m:Addr){e cut f g:U}(h:lZ a b (dC<|H m) e cut f g c i l d C):cY bA 156 #[aD b] a λn k=>n=aN (aM cf)/\k=a:=by
 have j:=cellAt h.box 0 rfl;clear h;go_in
 go_wp2;go_ret;simp_all
def Gj(a cut b c:U):ab:=dL #[aG a,dI cut,dI b,dI c]
def Ka{c:Func}{p:Tmp}(m:c.results=#[.cell p 178])(a:Array ab)(w:Y)(g:M)(e f h i:U)(t:TypeId)(d:M×M)(l:a.getD p iM=aD g)(j:w.heap[g]?=H (ay #[aG e,dI f,dI h,dI i] t d)):(results c a).run bA w=.ok (Gj e f h i) w:=by
 have b:a[p]?.getD iM=aD g:=by simpa using l
 have k:=kH (P:=bA) w g t 178 #[aG e,dI f,dI h,dI i] d _ j underlying178 rfl (by kernel_rfl);simp[results,m,b,asAddr,k,Gj]
def Ww{e cut f g:U}(h:lZ a b d e cut f g c i l t C):cY bA 222 #[aD b] a λq p=>q=aN (Gj e cut f g)/\Below (z<|G a) a p:=by
 have j:=cellAt h.box 1 rfl;have k:=cellAt h.box 2 rfl;have m:=cellAt h.box 3 rfl;have n:=cellAt h.box 4 rfl;have o:=ak h.box;clear h;go_in
 go_wp2;refine cy (Ka rfl _ _ (z<|G a) e cut f g _ _ rfl<|aK _ rfl) rfl ?_;exact⟨rfl,(Below.refl _ a).alloc (ag _) _⟩
theorem DO(c:M)(m:ab)(u:M)(f:u<18446744073709551616)(cut d i:U)(l e b:M)(g:ab)(p:mM)(h:lZ a c m u cut d i l e b g p)(k:Pow a):cY bA 93 #[aD c] a λr q=>r=aN (am<|fG u)/\Below (z<|G a) a q:=by
 have n:=cellAt h.box 1 rfl;have o:=CJ u f k;clear h k;go_in
 go_wp2_with(go_at_call 128;refine o.mono ?_;rintro r s⟨rfl,j⟩;have HB:=X j;clear j)
 go_ret;exact⟨rfl,HB⟩
def Va{j cut n u:U}(q g Cc d:M)(o:rV)(h:lZ a b (dC none) j cut n u c i l (bI q g Cc d) C)(x:o.pos+o.size<=Cc)(Q:Cc<=d)(A:0<o.size)(S:Cc<=1000000000000):cY bA 319 #[aD b,o.value] a λK F=>K=aN (dA #[bI q (g+o.pos) o.size (d-o.pos:M),.nilIface])/\Below (z<|G a) a F:=by
 obtain⟨pos,e,f,first,k⟩:=o;simp only at x A;unfold rV.value;simp only;have r:=ak h.box;have m:Below (z<|G a) a (dd a<|ay #[aq pos,aq e,aq f,am first,am k] 320):=(Below.refl _ a).alloc (ag _) _;have t:=ES<|h.below m h.lt.1 h.lt.2;have D:aW (dd a<|ay #[aq pos,aq e,aq f,am first,am k] 320) (R b 6)=H (bI q g Cc d):=by rw[qg _ _ _ r,ct h.box];rfl
 have v:∀(x:Bool)(a:Y),(Op.unary .not<|aM x).run bA a=.ok (aM<|!x) a:=λ_ _=>rfl;obtain⟨s,E⟩:∃s,pos+e=s:=⟨_,rfl⟩;have L:(pos:U)+(e:U)=(s:U):=by omega
 have N:IntKind.i64.wrap (s:U)=(s:U):=by rw[bP];omega
 have O:pos<s:=by omega
 have P:s<=Cc:=by omega
 have p:=X (show e=s-pos by omega);have HB:=X m;clear h m E;go_in
 go_wp2_with(go_at_call 156;refine t.mono ?_;rintro K T⟨rfl,rfl⟩)
 go_quiet(fail)
 go_wp2;go_ret2
 have w:=J p;have B:=J HB;subst w;exact⟨rfl,below_drewN B _⟩
def Ga(h:b<18446744073709551616):Nm (fG b):=by
 have a:=rF b h;have c:ui.size<=100:=by decide
 unfold Nm fG;rw[lA];omega
def Aw(h:b<18446744073709551616):Nm (dj b):=by
 have a:=rF b h;have c:SX.size<=100:=by decide
 unfold Nm dj;rw[lA];omega
def Qa:Nm ik:=by unfold Nm;decide
def Gb:Nm dE:=by unfold Nm;decide
def Z.of_heap{a b c:Y}(h:Z o a b)(j:(c.os,c.tape,c.output,c.heap)=(b.os,b.tape,b.output,b.heap)):Z o a c:=by
 obtain⟨e,g,i,d⟩:c.os=b.os/\c.tape=b.tape/\c.output=b.output/\c.heap=b.heap:=by simpa using j
 exact⟨e.trans h.os,g.trans h.tape,i.trans h.output,by rw[d];exact h.size,λk b j=>by rw[d];exact h.block k b j⟩
def dh(S:fh)(w:Y):Z S w w.drew:=⟨rfl,rfl,rfl,ag _,λ_ _ _=>rfl⟩
theorem jl(S:fh)(w:Y)(q:M):Z S w (w.drewN q):=⟨rfl,rfl,rfl,ag _,λ_ _ _=>rfl⟩
def bY.Wm(h:bY a b g){k:Array ab}{t:TypeId}{l:M×M}(e:a.heap[c]?=H (ay k t l))(n:t≠63)(q:t≠83)(r:t≠132)(o:t≠88)(s:t≠5):¬g.aL b c:=by
 rintro(rfl|rfl|rfl|f|⟨x,p,f⟩|⟨u,j,rfl|f⟩);exact iQ e h.gG n rfl;exact h.now.tag e rfl;exact h.safe.tag e rfl;obtain⟨d,i⟩:=eT h.steps f;grind
 obtain⟨d,m,i⟩:=(h.each x p).2.2 c f;grind
 exact iQ e (h.all j).1 o rfl;obtain⟨d,i⟩:=eT (h.all j).2.1 f;grind
def Z5(w e:Y)(d:M)(K:DK)(n:M)(f:eF)(h:Ending):Prop:=∃c,qQ w e d K c/\qc K c/\(∀k,c.aL d k->K.aL d k)/\((∃g a b,h=aN (dA #[bI g a n b,.nilIface])/\n<=b/\Bytes e (bI g a n b) f)\/(0<K.fx.bd/\∃q,h=aN (dA #[az,fj q])/\sF e q 8))
def Ri(B:i<18446744073709551616){cut s aF:U}(ba:rV)(bi:aX)(h:lZ a b (aD c) i cut s aF l F V d C)(N:bY a c g)(hg:dV g.files (fG i)=H bi)(h1:ba.pos+ba.size<=y bi.bytes)(h3:0<ba.size)(hp:Pow a):cY bA 319 #[aD b,ba.value] a λaV n=>Z5 a n c g ba.size ((bi.bytes.drop ba.pos).take ba.size) aV:=by
 obtain⟨pos,e,k,first,t⟩:=ba;simp only at h1 h3;unfold rV.value;simp only;have bo:=ak h.box;have m:Below (z<|G a) a (dd a<|ay #[aq pos,aq e,aq k,am first,am t] 320):=(Below.refl _ a).alloc (ag _) _;have f:=h.below m h.lt.1 h.lt.2;have av:=DI (R c 0) f;have bk:∀(bl:Bool)(a:Y),(Op.unary .not<|aM bl).run bA a=.ok (aM<|!bl) a:=λ_ _=>rfl;have E:=cellAt f.box 0 rfl;obtain⟨j,o⟩:∃j,j=dd a (ay #[aq pos,aq e,aq k,am first,am t] 320):=⟨_,rfl⟩;have u:AO j (z<|G a) ⟨pos,e,k,first,t⟩:=by rw[o];exact aK _ rfl
 have ax:z (G j)=z (G a)+1:=by rw[o];simp
 have x:b<z (G j):=by omega
 rw[<-o]at m f av E;have ad:aW j (R (z<|G a) 0)=H (aq pos):=u.cells.1;have al:aW j (R (z<|G a) 1)=H (aq e):=u.cells.2.1;have P:Pow j:=hp.aj (S:=aw) (Z.aQ m)<|λaU=>aU;have O:bY j c g:=N.aj (S:=aw) (Z.aQ m)<|λ_ _ aU=>aU;have HN:=X (show∀W,W.heap=j.heap->cY bA 93 #[aD b] W λaV n=>aV=aN (am<|fG i)/\Below (z<|G W) W n fromλW D=>DO b (aD c) i B cut s aF l F V d C ⟨by rw[D];exact f.box,λg bl e=>by rw[dy (w:=j)<|by rw[D]];exact f.cells g bl e,f.ne,f.le,f.small⟩<|P.dG<|by rw[D]);have ao:¬g.aL c b:=N.Wm h.box (by decide) (by decide) (by decide) (by decide) (by decide);have K:¬g.aL c (z<|G a):=λaU=>by have:=N.lt _ aU;omega
 have an:y bi.bytes<=1099511627776:=N.len (dq hg).2.1
 have HR:=X (show∀W,Below (z<|G j.drew) j.drew W->cY bA 83 #[aD c,am<|fG i,aq pos,aq e] W λaV n=>∃v d,aV=aN (dA #[v,d])/\(aW n (R b 0)=H (aD c)/\aW n (R (z<|G a) 0)=H (aq pos)/\aW n (R (z<|G a) 1)=H (aq e))/\Z5 a n c g e ((bi.bytes.drop pos).take e) (aN<|dA #[v,d])fromλW bd=>by
  have D:Z aw j W:=(dh _ j).cz<|Z.aQ (S:=aw) bd;have bc:=O.aj D<|λ_ _ aU=>aU;have au:qQ a W c g g:=((qQ.refl N).still<|Z.aQ m).still D;apply(CV (fG i) pos e bc hg (by omega) (by omega)<|Ga B).mono;rintro aV n⟨K',r,ap,ac,hr⟩;have L:Z (g.aL c) j n:=(D.mono (T:=g.aL c) cJ).trans r.aj<|λ_ aU=>.inl aU;have aa:aW n (R b 0)=H (aD c)/\aW n (R (z<|G a) 0)=H (aq pos)/\aW n (R (z<|G a) 1)=H (aq e):=⟨L.cell E ao x,L.cell ad K (by omega),L.cell al K<|by omega⟩;rcases hr with⟨v',rfl,ho⟩|⟨hb,q,rfl,hq⟩
  .have w:y ((bi.bytes.drop pos).take e)=e:=by simp;omega
   have Q:=ho.bytes;rcases Q.shape with⟨_,h0⟩|⟨bs,bh,bn,rfl,bf⟩
   .rw[h0]at w;grind
   .rw[w]at bf Q|-;exact⟨_,_,rfl,aa,K',au.trans r,ap,ac,(by grind)⟩
  .exact⟨_,_,rfl,aa,K',au.trans r,ap,ac,.inr ⟨hb,q,rfl,hq⟩⟩)
 obtain⟨HB,HW,HZ,bm⟩:=gw m o ax u;have A:z (G a)<z (G j):=by omega
 clear h m N hg an h1 hp f P O u ax o ao K;go_in
 go_wp2_with(go_at_call 156;rw[<-(J HW)];refine av.mono ?_;rintro aV w1⟨rfl,bg⟩;subst bg)
 go_region_held3(λd=>aW d (R b 0)=H (aD c)/\aW d (R (z<|G a) 0)=H (aq pos)/\aW d (R (z<|G a) 1)=H (aq e)) (first|assumption|go_keep) (first
  |(go_at_call 93;go_loud(refine(HN w1.drew rfl).mono ?_;rintro aV w2⟨rfl,v⟩;have bp:aW w2 (R b 0)=H (aD c)/\aW w2 (R (z<|G a) 0)=H (.int .i64 pos)/\aW w2 (R (z<|G a) 1)=H (.int .i64 e):=⟨(v.cell (p:=(R b 0)) x).trans (by rw[bF];exact E),(v.cell (p:=(R (z<|G a) 0)) A).trans (by rw[bF];exact ad),(v.cell (p:=(R (z<|G a) 1)) A).trans (by rw[bF];exact al)⟩;have bb:=X v))
  |(go_at_call 83;go_loud(refine(HR w2 bb).mono ?_;rintro aV w3⟨rv,br,rfl,bq,r1⟩;have R1:=X r1)))
 go_wp2;go_ret2
 exact R1
def dU(a:dX):eF:=(a.map<|λc=>gS<|fU c).flatten
theorem gO(a:eF):y (gS a)=y a+4:=by simp[gS,cg]
theorem pL(c:cU)(a:dX):dU (c::a)=gS (fU c)++dU a:=by simp[dU]
theorem Ld(b a:dX):dU (b++a)=dU b++dU a:=by simp[dU]
def Em(a:dX)(i:M)(h:i<y a):dU a=dU (a.take i)++(gS (fU a[i])++dU (a.drop<|i+1)):=by
 grind[take_append_drop,drop_eq_getElem_cons,Ld,pL]
def GJ(a:dX)(rest:eF)(i:M)(h:i<y a):((dU a++rest).drop<|y<|dU<|a.take i).take (y (fU a[i])+4)=gS (fU a[i]):=by
 rw[Em a i h,bj,tT,bj,<-gO,ld]
def Lc(a:dX)(i:M)(h:i<y a):y (dU<|a.take i)+(y (fU a[i])+4)<=y (dU a):=by
 rw[Em a i h];simp[gO]
structure uF(ks:mM)(cs:dX):Prop where
 len:y ks=y cs
 ne:0<y cs
 FT:∀i(hi:i<y ks)(hc:i<y cs),ks[i].Of cs[i]
 pos:∀i(hi:i<y ks),ks[i].pos=y (dU<|cs.take i)
 jf:∀c∈cs,∀x∈c,x.Good
 mJ:eh cs.flatten
 GW:cs.Pairwise ii
 small:∀c∈cs,y c<=1000
def Bytes.same{V:ja}{n0:M}{S:fh}(h:Bytes a d n)(i:kS V n0 S a f)(j:∀k,cI d=H k->k<n0/\¬V.F k):Bytes f d n:=by
 rcases h with⟨rfl,rfl⟩|⟨l,b,c,rfl,e,g⟩;exact .inl ⟨rfl,rfl⟩;exact .inr ⟨l,b,c,rfl,e,λk h=>i.cell (.inr<|j l rfl)<|g k h⟩
def nT.E1(V:ja)(q e:M)(i cut l C:U)(s m g j b a:M)(h:mM)(d:dX)(P:Y)(K:lZ P e (dC none) i cut l C s m g (bI j b (y<|dU d) a) h)(k:uF h d)(W:Bytes P (bI j b (y<|dU d) a) (dU d))(w:y (dU d)<=a)(A:y (dU d)<=1000000000000)(D:e<q/\¬V.F e)(E:s<q/\¬V.F s)(Q:j<q/\¬V.F j)(B:Steps P)(x:1<q/\¬V.F 1):nT V q e h d P where
 mem:=⟨_,_,_,_,_,_,_,_,_,K,D,E⟩
 len:=k.len
 FT:=k.FT
 jf:=k.jf
 mJ:=k.mJ
 GW:=k.GW
 small:=k.small
 steps:=B
 Bi:=x
 bytes:=by
  intro r F t aa L T;have O:=k.FT r F t;have c:=k.pos r F;have u:=Lc d r t;refine(Va j b (y<|dU d) a h[r] (K.same L D E) (by rw[c,O.size];exact u) w (by rw[O.size];omega) A).mono ?_;rintro ad W'⟨rfl,f⟩;refine .inl ⟨j,b+h[r].pos,a-h[r].pos,rfl,by rw[c,O.size];omega,?_,V.fc T (Z.aQ (S:=aw) f) cJ,Z.aQ f⟩;have o:Bytes aa (bI j b (y<|dU d) a) (dU d):=W.same L (λac v=>by cases v;exact Q);have hd:=o.Dr (n:=h[r].pos) (by rw[c];omega);have N:=Bytes.take (bs:=(dU d).drop h[r].pos) (n:=h[r].size) (by simpa using hd) (by simp;rw[c,O.size];omega);have p:=GJ d [] r t;rw[dz,<-c,<-O.size]at p;rw[p]at N;refine N.below f<|λac v=>?_;cases v;have hx:=o.lt (bs:=dU d) (by grind) j rfl;exact hx
def La(a:Prop)(c:M)(b:DK)(F:fh):ja where
 Xp:=a
 D W:=(∀k,F k->k<z (G W))/\∃K,bY W c K/\qc b K/\(∀k,K.aL c k->F k)/\Fx b.fx K.fx
 F:=F
 fc:=by
  rintro w l S⟨e,K,f,g,h,i⟩d j;exact⟨λk a=>ai (e k a) d.size,K,f.aj d (by grind),g,h,i⟩
 lt:=by
  grind
def nT.RO(e:Prop)(u:M)(h:DK)(F:fh)(m a ao:M)(hu:ao<18446744073709551616)(cut f K:U)(r i b:M)(t:ab)(p:mM)(j:dX)(ad:aX)(rest:eF)(ac:Y)(V:lZ ac a (aD u) ao cut f K r i b t p)(c:uF p j)(hf:dV h.files (fG ao)=H ad)(l:ad.bytes=dU j++rest)(A:h.fx.ok)(hX:0<h.fx.bd->e)(P:a<m/\¬F a)(Q:r<m/\¬F r)(E:Steps ac)(D:1<m/\¬F 1)(C:Pow ac)(B:2<m/\¬F 2):nT (La e u h F) m a p j ac where
 mem:=⟨_,_,_,_,_,_,_,_,_,V,P,Q⟩
 len:=c.len
 FT:=c.FT
 jf:=c.jf
 mJ:=c.mJ
 GW:=c.GW
 small:=c.small
 steps:=E
 Bi:=D
 bytes:=by
  rintro aa T v ap W⟨x,av,hK,N,e3,O⟩;have an:=c.FT aa T v;have d:=c.pos aa T;have al:=Lc j aa v;refine(Ri hu p[aa] ad (V.same W P Q) hK (by rw[N.1];exact hf) (by rw[d,an.size,l,af];omega) (by rw[an.size];omega)<|C.dG<|W.2 _<|.inl B).mono ?_;rintro ax L⟨K',o,f1,f3,hr⟩;have S:(La e u h F).D L:=⟨λk c=>ai (x k c) o.aj.size,K',o.ok,N.trans f1,(by grind),O.trans o.fx⟩;have ht:Z F ap L:=o.aj.mono (by grind);rcases hr with⟨au,g,s,rfl,w,n⟩|⟨n,q,rfl,hq⟩
  .refine .inl ⟨au,g,s,rfl,w,?_,S,ht⟩;have k:=GJ j rest aa v;rw[<-d,<-an.size,<-l]at k;rw[k]at n;exact n
  .exact .inr ⟨hX<|O.pos A n,q,rfl,hq,S,ht⟩
def Uh:(prog.info? 320).map (λi=>(i.zero,i.size,i.bytes))=H (H<|dL #[aq 0,aq 0,aq 0,am ⟨#[]⟩,am ⟨#[]⟩],5,56):=by kernel_rfl
def Rh(w:Y)(x a b u v:ab)(t:TypeId):∀j q,[x,a,b,u,v][j]?=H q->aW (dd w<|ay #[x,a,b,u,v] t) (((R (z<|G w) 0):Addr).add j)=H q:=by
 intro j q c;rw[dJ];simp_all
def Z.fN(h:eJ a f d t):Z (λk=>cI d=H k) a f:=Z.ep h.grown<|λ_ e=>.inl e
def eX.aj{w w':Y}{b:M}{t:TypeId}{S:fh}(h:eX w b d t)(c:Z S w w')(a:¬S b):eX w' b d t:=(c.block b (ak h) a).trans h
def fy(w:Y)(b i:M)(u:ab):Z (λk=>k=b) w (cH w (R b i) u):=(Z.refl (λk=>k=b) w).setCell b i u<|.inl rfl
structure lY(W:Y)(base bl bd bp bk bf bt:M)(lv dv pv kv:ab)(fr to:M)(ds ps:eF)(ks:mM):Prop where
 l:eX W bl lv 73
 d:eX W bd dv 86
 p:eX W bp pv 86
 k:eX W bk kv 243
 f:eX W bf (aq fr) 3
 t:eX W bt (aq to) 3
 od:fg W base dv ds
 op:fg W base pv ps
 ok:W.ownsRow base 320 5 kv (y ks) (eS ks)
 ne:∀x,cI dv=H x->cI pv≠H x
 ord:bl<bd/\bd<bp/\bp<bk/\bk<bf/\bf<bt/\bt<base
 size:base<=z (G W)
def GR(a:mM)(k:rV):eS (a++[k])=eS a++k.cells:=by simp[eS]
def lY.lG{e k h l bk j m:M}{g:ab}{p:eF}(o:lY a e k h l bk j m d t L g b c n p C)(q:i<e):¬(cI t=H i)/\¬(cI L=H i)/\¬(cI g=H i):=⟨λf=>by have:=(o.od.lt i f).1;omega,λf=>by have:=(o.op.lt i f).1;omega,λf=>by have:=(bN o.ok i f).1;omega⟩
def kD(h:a.ownsRow b c i d l B)(f:F<b):(cH a (R F V) t).ownsRow b c i d l B:=(fy a F V t).own h (λk e g=>by have:=(bN h k e).1;omega)
def lY.kd{e l j m bk k o:M}{h:ab}{s:eF}(i:lY a e l j m bk k o d t L h b c n s C):(∀x,cI h=H x->cI t≠H x)/\(∀x,cI h=H x->cI L≠H x):=by
 constructor;intro x p g;obtain⟨c1,q⟩:=eT i.ok p;obtain⟨c2,r⟩:=eT i.od g;grind
 intro x p g;obtain⟨c1,q⟩:=eT i.ok p;obtain⟨c2,r⟩:=eT i.op g;grind
def lY.piece{e o m j bk n p:M}{s g:ab}{q A ps1:eF}(h:lY a e o m j bk n p d t L s b c q A C)(i:Z (λr=>cI L=H r) a f)(x:cI g=cI L\/∃v,cI g=H v/\z (G a)<=v)(w:fg f e g ps1):lY (cH f (R j 0) g) e o m j bk n p d t g s b c q ps1 C:=by
 have D:=h.ord;refine⟨(h.l.aj i (h.lG<|by omega).2.1).other _ (by omega),(h.d.aj i (h.lG<|by omega).2.1).other _ (by omega),(h.p.aj i (h.lG<|by omega).2.1).set _,(h.k.aj i (h.lG<|by omega).2.1).other _ (by omega),(h.f.aj i (h.lG<|by omega).2.1).other _ (by omega),(h.t.aj i (h.lG<|by omega).2.1).other _ (by omega),kD (i.own h.od<|λr l=>h.ne r l) (by omega),kD w (by omega),kD (i.own h.ok<|λr l=>h.kd.2 r l) (by omega),λE l k=>?_,D,by rw[im];exact aB h.size i.size⟩;rcases x with u|⟨v,u,B⟩;exact h.ne E l<|u▸k;rw[u]at k;cases k;have:=(h.od.lt _ l).2;omega
def lY.blocks{e m k o bk l p:M}{r i:ab}{s:eF}{w ks1:mM}(h:lY a e m k o bk l p d t L r b c n s w)(g:Z (λq=>cI r=H q) a f)(v:f.ownsRow e 320 5 i (y ks1) (eS ks1)):lY (cH f (R bk 0) i) e m k o bk l p d t L i b c n s ks1:=by
 have x:=h.ord;exact⟨(h.l.aj g (h.lG<|by omega).2.2).other _ (by omega),(h.d.aj g (h.lG<|by omega).2.2).other _ (by omega),(h.p.aj g (h.lG<|by omega).2.2).other _ (by omega),(h.k.aj g (h.lG<|by omega).2.2).set _,(h.f.aj g (h.lG<|by omega).2.2).other _ (by omega),(h.t.aj g (h.lG<|by omega).2.2).other _ (by omega),kD (g.own h.od<|λq u j=>h.kd.1 q j u) (by omega),kD (g.own h.op<|λq u j=>h.kd.2 q j u) (by omega),kD v (by omega),h.ne,x,by rw[im];exact aB h.size g.size⟩
def lY.data{e n k o bk m p:M}{r g:ab}{v ds1 s:eF}(h:lY a e n k o bk m p d t L r b c v s C)(i:Z (λq=>cI t=H q) a A)(D:cI g=cI t\/∃w,cI g=H w/\z (G a)<=w)(B:fg A e g ds1):lY (cH A (R k 0) g) e n k o bk m p d g L r b c ds1 s C:=by
 have K:=h.ord;refine⟨(h.l.aj i (h.lG<|by omega).1).other _ (by omega),(h.d.aj i (h.lG<|by omega).1).set _,(h.p.aj i (h.lG<|by omega).1).other _ (by omega),(h.k.aj i (h.lG<|by omega).1).other _ (by omega),(h.f.aj i (h.lG<|by omega).1).other _ (by omega),(h.t.aj i (h.lG<|by omega).1).other _ (by omega),kD B (by omega),kD (i.own h.op<|λq l j=>h.ne q j l) (by omega),kD (i.own h.ok<|λq l=>h.kd.1 q l) (by omega),λx l j=>?_,K,by rw[im];exact aB h.size i.size⟩;rcases D with u|⟨w,u,E⟩;exact h.ne x (u▸l) j;rw[u]at l;cases l;have:=(h.op.lt _ j).2;omega
def lY.fin{e k j g bk f l:M}{m:ab}{o:eF}(h:lY a e k j g bk f l d t L m b i n o C):lY (cH (cH a (R g 0) az) (R f 0)<|aq i) e k j g bk f l d t az m i i n [] C:=by
 have r:=h.ord;exact⟨(h.l.other _<|by omega).other _ (by omega),(h.d.other _<|by omega).other _ (by omega),(h.p.set _).other _ (by omega),(h.k.other _<|by omega).other _ (by omega),(h.f.other _<|by omega).set _,(h.t.other _<|by omega).other _ (by omega),kD (kD h.od<|by omega) (by omega),fg.nil _ _,kD (kD h.ok<|by omega) (by omega),(λx _ p=>by cases p),r,by rw[im,im];exact h.size⟩
def lY.U6{e j i g bk f k:M}{l:ab}{m:eF}(h:lY a e j i g bk f k d t L l b c n m C):lY (cH (cH a (R f 0)<|aq c) (R g 0) az) e j i g bk f k d t az l c c n [] C:=by
 have p:=h.ord;exact⟨(h.l.other _<|by omega).other _ (by omega),(h.d.other _<|by omega).other _ (by omega),(h.p.other _<|by omega).set _,(h.k.other _<|by omega).other _ (by omega),(h.f.set _).other _ (by omega),(h.t.other _<|by omega).other _ (by omega),kD (kD h.od<|by omega) (by omega),fg.nil _ _,kD (kD h.ok<|by omega) (by omega),(λx _ o=>by cases o),p,by rw[im,im];exact h.size⟩
def lY.at{e m j o bk k g:M}{q:ab}{r:eF}(h:lY a e m j o bk k g d t L q c l n r C)(s:M):lY (cH a (R g 0)<|aq s) e m j o bk k g d t L q c s n r C:=by
 have u:=h.ord;exact⟨h.l.other _ (by omega),h.d.other _ (by omega),h.p.other _ (by omega),h.k.other _ (by omega),h.f.other _ (by omega),h.t.set _,kD h.od (by omega),kD h.op (by omega),kD h.ok (by omega),h.ne,u,by rw[im];exact h.size⟩
def vM(a b:M)(c e d:ab)(x:M):Prop:=(a<=x/\x<=b)\/cI c=H x\/cI e=H x\/cI d=H x
def lY.low{e f k m bk l h:M}{i:ab}{o:eF}(j:lY a e f k m bk l h d t L i b c n o C):∀x,vM f h t L i x->f<=x:=by
 have p:=j.ord;rintro x(⟨g,_⟩|g|g|g);exact g;have:=(j.od.lt x g).1;omega;have:=(j.op.lt x g).1;omega;have:=(bN j.ok x g).1;omega
def lY.aj{W w':Y}{a k g m bk j o:M}{q:ab}{r:eF}(h:lY W a k g m bk j o d t L q c l n r C)(e:Z aw W w'):lY w' a k g m bk j o d t L q c l n r C:=⟨h.l.aj e id,h.d.aj e id,h.p.aj e id,h.k.aj e id,h.f.aj e id,h.t.aj e id,e.own h.od<|λ_ _ p=>p,e.own h.op<|λ_ _ p=>p,e.own h.ok<|λ_ _ p=>p,h.ne,h.ord,aB h.size e.size⟩
def lY.L0{e l q s bk r m:M}{p:ab}{u:eF}(i:lY a e l q s bk r m d t L p b c n u C)(g:Z o a f)(h:∀k,vM l m t L p k->¬o k):lY f e l q s bk r m d t L p b c n u C:=by
 have j:=i.ord;exact⟨i.l.aj g<|h _<|.inl ⟨by omega,by omega⟩,i.d.aj g<|h _<|.inl ⟨by omega,by omega⟩,i.p.aj g<|h _<|.inl ⟨by omega,by omega⟩,i.k.aj g<|h _<|.inl ⟨by omega,by omega⟩,i.f.aj g<|h _<|.inl ⟨by omega,by omega⟩,i.t.aj g<|h _<|.inl ⟨by omega,by omega⟩,g.own i.od<|λk j=>h k<|.inr<|.inl j,g.own i.op<|λk j=>h k<|.inr<|.inr<|.inl j,g.own i.ok<|λk j=>h k<|.inr<|.inr<|.inr j,i.ne,i.ord,aB i.size g.size⟩
def lY.wz{e g k m bk l h:M}{j:ab}{o:eF}(i:lY a e g k m bk l h d t L j b c n o C):∀x,vM g h t L j x->x<z (G a):=by
 have q:=i.ord;have p:=i.size;rintro x(⟨_,f⟩|f|f|f);omega;exact(i.od.lt x f).2;exact(i.op.lt x f).2;exact(bN i.ok x f).2
def Z.low(h:Z o a f)(g:∀x,o x->b<=x)(j:c<b)(e:aW a (R c i)=H d):aW f (R c i)=H d:=h.cell e (by grind)<|cF a (R c i) e
def kE{P:Program}{x:Oper}{w:Act}{aa:Act->Y->Prop}{ao:Exit->Act->Y->Prop}(al an:Operand)(A:TypeId)(o:x.op=Op.call {callee:=Callee.builtin Builtin.append,args:=#[al,an],argTypes:=#[A,A]})(b:M)(t:TypeId)(u:TypeInfo)(i:ab)(c bytes:M)(V:P.underlying A=H (.slice t))(N:P.info? t=H u)(hz:u.zero=H i)(h:u.size=c)(n:u.bytes=bytes)(q:i.cells.size=c)(p:0<c)(C:ab)(v:M)(r:ix)(S:w.eval al=C)(j:a.ownsRow b t c C v r)(m:Addr)(s ac:M)(d:ix)(W:w.eval an=I (H m) s ac)(O:y d=s*c)(g:∀ad B,d[ad]?=H B->aW a (m.add ad)=H B)(D:∀B∈d,B.oneCell'=cf)(hn:v+s<=140737488355328)(e:(v+s)*bytes<=140737488355328)(f:b<=z (G a))(L:∀k l,l.ownsRow b t c k (v+s) (r++d)->eJ a l C k->aa (w.put x.dst k) l):Oper.wp P x w a aa ao:=by
 obtain⟨k,l,Q,E,F,_,K⟩:=nG (P:=P) a b A x.type t u i c bytes V N hz h n q p C v r j m s ac d O g D (by unfold maxLen;omega) e f;unfold Oper.wp;simp[execOp,o,resolve,invoke,builtin,S,W,Q,Result.andThen];exact L k l E<|eJ.of F K
def uy(h:Bytes a (bI b c i l) n):∀j u,(n.map<|Value.int .u8)[j]?=H u->aW a (((R b c):Addr).add j)=H u:=by
 intro j u k;rw[dJ];rcases h with⟨h,_⟩|⟨f,e,d,h,_,g⟩;cases h;grind
def Zy{f x A q bk N r:M}(ac e s bh:M)(t1:M){j:eF}(kf kl:ae)(h:lY a f x A q bk N r (bI ac e bh s) d t L b c n j C)(hT:Steps a)(hg:ac<x)(c0:aW a (R ac<|e+b*4)=H (am kf))(c1:aW a (R ac<|e+t1*4)=H (am kl))(df:b<bh)(ds:t1<bh)(co:c=t1+1)(dk:b<=t1)(hL:bh<=1000000000)(dc:y n<=100000000000)(dr:y j<=100000)(dm:y C<=1000000000):cY bA 214 #[aD q,aD bk,aD A,aD r,aD N,aD x] a λcE w'=>
 cE=aN (dA #[])/\(∃ad au,lY w' f x A q bk N r (bI ac e bh s) ad az au c c (n++gS j) [] (C++[⟨y n,y j+4,c-b,kf,kl⟩])/\(∀K,cI ad=H K->cI d=H K\/z (G a)<=K)/\(∀K,cI au=H K->cI L=H K\/z (G a)<=K))/\Z (vM x r d t L) a w':=by
 obtain⟨i0,cj,cs,cu,cv⟩:=dl Uh
 obtain⟨j0,ck,cp,cq,cr⟩:=dl qG
 have cM:=h.ord
 have cn:=h.size
 have bu:=Fz hT h.op cn<|by omega
 obtain⟨Q,P,ce⟩:=aC h.od
 obtain⟨V,S,cm⟩:=aC h.ok
 subst ce
 subst cm
 have q1:=h.p.cell
 have q2:=h.p.free
 have B:=h.low
 have bi:=X c0
 have bl:=X c1
 obtain⟨Oq,bf⟩:∃Oq,c-b=Oq:=⟨_,rfl⟩
 rw[bf]
 have e1:(c:U)-(b:U)=(Oq:U):=by omega
 have e2:(c:U)-1=(t1:U):=by omega
 have e3:IntKind.i64.wrap (Oq:U)=(Oq:U):=by rw[bP];omega
 have e4:IntKind.i64.wrap (t1:U)=(t1:U):=by rw[bP];omega
 have e5:(b:U)<(bh:U):=by omega
 have e6:(t1:U)<(bh:U):=by omega
 have cb:=X (show∀w w1,fg w1 f w (j++le 4 (lJ j))->eJ a w1 t w->∃pb k pc,w=bI pb k (y j+4) pc/\(aW w1 (R q 0)=H t/\w1.frozen? (R q 0)=bw)/\lY (cH w1 (R q 0) w) f x A q bk N r (bI ac e bh s) (I Q (y n) P) w (I V (y C) S) b c n (j++le 4 (lJ j)) C/\Z (vM x r (I Q (y n) P) t<|I V (y C) S) a (cH w1 (R q 0) w)from by
  intro w w1 al W;have u:y (j++le 4 (lJ j))=y j+4:=by simp[cg]
  have aa:=h.p.aj (Z.fN W) (h.lG<|by omega).2.1;have g:=h.piece (Z.fN W) W.vQ al;have D:=((Z.fN W).mono (T:=vM x r (I Q (y n) P) t<|I V (y C) S)<|λK F=>.inl<|.inr<|.inr<|.inl F).setCell q 0 w<|.inl<|.inl ⟨by omega,by omega⟩;rcases al.bytes.shape with⟨_,h0⟩|⟨pb,k,pc,h0,h1⟩
  .rw[h0]at u;simp at u
  grind[eX.cell,eX.free])
 clear h hT c0 c1 co bf
 go_in
 go_wp2_with(go_at_call 182;refine bu.mono ?_;rintro cE w1⟨w,rfl,al,W⟩;obtain⟨pb,k,pc,rfl,⟨cd,ch⟩,g,D⟩:=cb w w1 al W;have bp:=X g;have bo:=X D;clear g D al W)
 have g:=J bp
 have D:=J bo
 clear bp bo cd ch
 generalize cH w1 (R q 0) (bI pb k (y j+4) pc)=p at*
 clear bu q1 q2
 have k0:aW p (R ac<|e+b*4)=H (am kf):=D.low B hg bi
 have k1:aW p (R ac<|e+t1*4)=H (am kl):=D.low B hg bl
 have l1:=g.l.cell
 have l2:=g.d.cell
 have l3:=g.p.cell
 have l4:=g.k.cell
 have l5:=g.f.cell
 have l6:=g.t.cell
 have bq:=X (show∀(m:Obj)O o,o.ownsRow f 320 5 O (y C+1) (eS C++[aq<|y n,aq<|(y j:U)+4,aq Oq,am kf,am kl])->eJ (dd p m).drew o (I V (y C) S) O->lY (cH o (R bk 0) O) f x A q bk N r (bI ac e bh s) (I Q (y n) P) (bI pb k (y j+4) pc) O b c n (j++le 4 (lJ j)) (C++[⟨y n,y j+4,Oq,kf,kl⟩])/\Z (vM x r (I Q (y n) P) t<|I V (y C) S) a (cH o (R bk 0) O)/\(aW o (R ac<|e+b*4)=H (am kf)/\aW o (R ac<|e+t1*4)=H (am kl)/\aW o (R x 0)=H (bI ac e bh s)/\aW o (R A 0)=H (I Q (y n) P)/\aW o (R q 0)=H (bI pb k (y j+4:M) pc)/\aW o (R N 0)=H (aq b)/\aW o (R r 0)=H (aq c))/\aW o (R bk 0)=H (I V (y C) S)/\(aW (cH o (R bk 0) O) (R ac<|e+b*4)=H (am kf)/\aW (cH o (R bk 0) O) (R ac<|e+t1*4)=H (am kl)/\aW (cH o (R bk 0) O) (R x 0)=H (bI ac e bh s)/\aW (cH o (R bk 0) O) (R A 0)=H (I Q (y n) P)/\aW (cH o (R bk 0) O) (R q 0)=H (bI pb k (y j+4:M) pc)/\aW (cH o (R bk 0) O) (R N 0)=H (aq b)/\aW (cH o (R bk 0) O) (R r 0)=H (aq c))/\o.frozen? (R bk 0)=bw/\(∀K,cI O=H K->cI (I V (y C) S)=H K\/z (G a)<=K)from by
  intro m O o an ap;have u:Z (λK=>cI (I V (y C) S)=H K) p o:=(((Z.refl _ p).alloc m).trans (dh _ _)<|λK F=>.inl F).trans (Z.fN ap)<|λK F=>.inl F;have aa:=g.k.aj u (g.lG<|by omega).2.2;have l:=g.blocks (ks1:=C++[⟨y n,y j+4,Oq,kf,kl⟩]) u (by rw[GR,af];exact an);have bg:∀K,cI (I V (y C) S)=H K->f<=K:=λK F=>(bN g.ok K F).1;have ao:Z (vM x r (I Q (y n) P) t<|I V (y C) S) a (cH o (R bk 0) O):=(D.trans u<|λK F=>.inl<|.inr<|.inr<|.inr F).setCell bk 0 _<|.inl<|.inl ⟨by omega,by omega⟩;exact⟨l,ao,⟨u.low bg (by omega) k0,u.low bg (by omega) k1,(g.l.aj u<|by grind).cell,(g.d.aj u<|by grind).cell,(g.p.aj u<|by grind).cell,(g.f.aj u<|by grind).cell,(g.t.aj u<|by grind).cell⟩,aa.cell,⟨ao.low B hg bi,ao.low B hg bl,l.l.cell,l.d.cell,l.p.cell,l.f.cell,l.t.cell⟩,aa.free,λK F=>by
   rcases ap.vQ with cE|⟨cB,cE,hy⟩
   .grind
   .rw[cE]at F;cases F;have h1:=D.size;have h2:z (G p)<z (G (dd p m).drew):=by simp_all
    grind⟩)
 have bn:=X g.ok
 have cN:f<=z (G p):=g.size
 have b1:ac<z (G p):=by omega
 have b2:x<z (G p):=by omega
 have b3:A<z (G p):=by omega
 have b4:q<z (G p):=by omega
 have b5:bk<z (G p):=by omega
 have b6:N<z (G p):=by omega
 have b7:r<z (G p):=by omega
 clear g D
 have hS:(aW p.drew (R ac<|e+b*4)=H (am kf)/\aW p.drew (R ac<|e+t1*4)=H (am kl)/\aW p.drew (R x 0)=H (bI ac e bh s)/\aW p.drew (R A 0)=H (I Q (y n) P)/\aW p.drew (R q 0)=H (bI pb k (y j+4:M) pc)/\aW p.drew (R bk 0)=H (I V (y C) S)/\aW p.drew (R N 0)=H (aq b)/\aW p.drew (R r 0)=H (aq c)):=⟨by rw[bF];exact k0,by rw[bF];exact k1,by rw[bF];exact l1,by rw[bF];exact l2,by rw[bF];exact l3,by rw[bF];exact l4,by rw[bF];exact l5,by rw[bF];exact l6⟩
 rename_i QQ KK br
 refine eH (λm=>(aW m (R ac<|e+b*4)=H (am kf)/\aW m (R ac<|e+t1*4)=H (am kl)/\aW m (R x 0)=H (bI ac e bh s)/\aW m (R A 0)=H (I Q (y n) P)/\aW m (R q 0)=H (bI pb k (y j+4:M) pc)/\aW m (R bk 0)=H (I V (y C) S)/\aW m (R N 0)=H (aq b)/\aW m (R r 0)=H (aq c))) 22 (by kernel_rfl) ?_
 refine fw 0 ?_
 iterate 20 (refine iS (v:=?_) hS rfl (by kernel_rfl) lQ rfl ?_ ?_;rotate_left;(focus(intro m hX;obtain⟨x0,x1,x2,x3,x4,x5,x6,x7⟩:=hX;go_simp;try rfl));simp only[Act.put,ig,Nat.reduceAdd])
 apply iG
 refine bG (i:=20) rfl rfl (by kernel_rfl) ?_
 intro cS ba
 go_simp
 refine ba _ _ (λ_=>?_) ?_
 .exact⟨by rw[bF,fE b1];exact k0,by rw[bF,fE b1];exact k1,by rw[bF,fE b2];exact l1,by rw[bF,fE b3];exact l2,by rw[bF,fE b4];exact l3,by rw[bF,fE b5];exact l4,by rw[bF,fE b6];exact l5,by rw[bF,fE b7];exact l6⟩
 refine bG (i:=21) rfl rfl (by kernel_rfl) ?_
 intro cT bb
 simp only[da,cD,cG]
 refine kE (.tmp 8) (.tmp 28) 243 rfl f 320 i0 (dL #[aq 0,aq 0,aq 0,am ⟨#[]⟩,am ⟨#[]⟩]) 5 56 underlying243 cj cs cu cv rfl (by decide) (I V (y C) S) (y C) (eS C) rfl (kj (aT bn<|ay #[aq<|y n,aq<|(y j:U)+4,aq Oq,am kf,am kl] 320) rfl) (R (z<|G p) 0) 1 1 [aq<|y n,aq<|(y j:U)+4,aq Oq,am kf,am kl] rfl rfl (Rh _ _ _ _ _ _ _) (by simp[Value.oneCell']) (by omega) (by omega) (by simp;omega) ?_
 intro O o an ap
 obtain⟨l,ao,⟨s0,s1,s2,s3,s4,s6,s7⟩,s5,⟨z0,z1,z2,z3,z4,z6,z7⟩,bt,bd⟩:=bq _ O o an ap
 obtain⟨bx,bv,cl⟩:=aC an
 subst cl
 refine bb _ _ (by grind) ?_
 simp only[Act.put,ig]
 refine bG (i:=22) rfl rfl (by kernel_rfl) ?_
 intro db bc
 go_simp
 refine bc _ _ IY ?_
 refine fm (by kernel_rfl) ?_ _
 show KK _ _
 apply br
 clear br ba bb bc z0 z1 z2 z3 z4 z6 z7 s0 s1 s2 s3 s4 s5 s6 s7 bt an ap hS k0 k1 l1 l2 l3 l4 l5 l6 b1 b2 b3 b4 b5 b6 b7 bq bn
 have aU:=X bd
 clear bd
 generalize cH o (R bk 0) (I bx (y C+1) bv)=W3 at*
 generalize(I bx (y C+1) bv)=cx at*
 have l2:=l.d.cell
 have l3:=l.p.cell
 have cw:=l.size
 have bL:=X l.od
 have bE:=X l.op.bytes
 have dn:y (j++le 4 (lJ j))=y j+4:=by simp[cg]
 have cc:=X (show∀v4 w4,w4.ownsRow f 5 1 v4 (y n+(y j+4)) (n.map (Value.int .u8)++(j++le 4 (lJ j)).map (Value.int .u8))->eJ W3 w4 (I Q (y n) P) v4->(aW w4 (R A 0)=H (I Q (y n) P)/\w4.frozen? (R A 0)=bw)/\lY (cH w4 (R A 0) v4) f x A q bk N r (bI ac e bh s) v4 (bI pb k (y j+4) pc) cx b c (n++gS j) (j++le 4 (lJ j)) (C++[⟨y n,y j+4,Oq,kf,kl⟩])/\Z (vM x r (I Q (y n) P) t<|I V (y C) S) a (cH w4 (R A 0) v4)/\(∀K,cI v4=H K->cI (I Q (y n) P)=H K\/z (G a)<=K)from by
  intro v4 w4 av aF;have u:=Z.fN aF;have aa:=l.d.aj u (l.lG<|by omega).1;have bg:=l.data (ds1:=n++gS j) u aF.vQ<|fg.of av (by rw[af,gO]) (by unfold gS;rw[aE,aE,aE]);exact⟨⟨aa.cell,aa.free⟩,bg,(ao.trans u<|λK F=>.inl<|.inr<|.inl F).setCell A 0 _<|.inl<|.inl ⟨by omega,by omega⟩,λK F=>by
   grind[eJ.vQ,Nat.le_trans,Z.size]⟩)
 go_wp2_with(first
  |(at_builtin;go_loud(refine cC _ rfl (.tmp 30) (.tmp 31) 86 rfl f 5 j0 (.int .u8 0) 1 1 underlying86 ck cp cq cr rfl (by decide) _ (y n) (n.map (Value.int .u8)) rfl bL (R pb k) (y j+4) pc ((j++le 4 (lJ j)).map (Value.int .u8)) rfl (by grind) (uy bE) (by intro dv hu;simp only[bH]at hu;obtain⟨cB,_,rfl⟩:=hu;rfl) (by omega) (by omega) cw ?_;intro v4 w4 av aF;obtain⟨⟨y0,y1⟩,E,ax,bs⟩:=cc v4 w4 av aF;obtain⟨x4,c4,rfl⟩:=aC av;have aV:=X bs;have ca:=X E;have bT:=X ax)))
 have E:=J ca
 have ax:=J bT
 have y2:=E.p.cell
 have y3:=E.p.free
 have y4:=E.f.cell
 have y5:=E.f.free
 have y6:=E.t.cell
 have n1:N≠q:=by omega
 have n2:r≠q:=by omega
 have n3:r≠N:=by omega
 have bm:=X (show∀u,(u=(cH (cH (cH w4 (R A 0)<|I x4 (y n+(y j+4)) c4) (R q 0) az) (R N 0)<|aq c).drew\/u=(cH (cH (cH w4 (R A 0)<|I x4 (y n+(y j+4)) c4) (R N 0)<|aq c) (R q 0) az).drew)->(∃ad au,lY u f x A q bk N r (bI ac e bh s) ad az au c c (n++gS j) [] (C++[⟨y n,y j+4,Oq,kf,kl⟩])/\(∀K,cI ad=H K->cI (I Q (y n) P)=H K\/z (G a)<=K)/\(∀K,cI au=H K->cI (I V (y C) S)=H K\/z (G a)<=K))/\Z (vM x r (I Q (y n) P) t<|I V (y C) S) a u from by
  rintro u(rfl|rfl)
  .exact⟨⟨_,_,E.fin.aj<|dh _ _,aV,aU⟩,((ax.setCell q 0 _<|.inl<|.inl ⟨by omega,by omega⟩).setCell N 0 _<|.inl<|.inl ⟨by omega,by omega⟩).trans (dh _ _)<|λK F=>.inl F⟩
  .exact⟨⟨_,_,E.U6.aj (dh _ _),aV,aU⟩,((ax.setCell N 0 _ (.inl (.inl ⟨by omega,by omega⟩))).setCell q 0 _ (.inl (.inl ⟨by omega,by omega⟩))).trans (dh _ _) (λK F=>.inl F)⟩)
 go_region
 all_goals
  go_end0;refine⟨rfl,bm _ ?_⟩;grind
def GA(c:cU):ae:=(c[0]?.map E.key).getD ⟨#[]⟩
def Nx(c:cU):ae:=(c[y c-1]?.map E.key).getD ⟨#[]⟩
def OA(p:M)(c:cU):rV:=⟨p,y (fU c)+4,y c,GA c,Nx c⟩
def bX:M->dX->mM
 |_,[]=>[]
 |p,c::a=>OA p c::bX (p+(y (fU c)+4)) a
def kg:∀(a:dX)(p:M),y (bX p a)=y a
 |[],_=>rfl
 |c::a,p=>by rw[bX,aO,kg a,aO]
def Es(c:cU):∀(a:dX)(p:M),bX p (a++[c])=bX p a++[OA (p+y (dU a)) c]
 |[],p=>by simp[bX,dU]
 |d::a,p=>by
  rw[cR,bX,Es c a,bX,cR,pL,af,gO];grind
def AJ:∀(a:dX)(p i:M)(f:i<y (bX p a))(b:i<y a),(bX p a)[i]=OA (p+y (dU<|a.take i)) a[i]
 |[],_,i,_,b=>(by grind)
 |c::a,p,0,_,_=>by simp[bX,dU]
 |c::a,p,i+1,f,b=>by
  have e:i<y (bX (p+(y (fU c)+4)) a):=by simpa[bX]using f
  have d:i<y a:=by simpa using b
  have h:=AJ a (p+(y (fU c)+4)) i e d;simp only[bX,cD,sO,pL,af,gO];rw[h];grind
def Jn(h:0<y e):GA e=(e[0]'h).key:=by
 unfold GA;rw[aR h];rfl
def Nw(h:0<y e):Nx e=(e[y e-1]'(by omega)).key:=by
 unfold Nx;rw[aR<|by omega];rfl
def XY(h:0<y e)(p:M):(OA p e).Of e:=⟨h,rfl,rfl,Jn h,Nw h⟩
def KY:∀(c:cU),y c<=y (fU c)
 |[]=>by simp[fU]
 |x::c=>by
  have:=KY c;unfold fU at*;rw[dY,af,aO];have:8<=y (Dq x):=by unfold Dq;rw[af,cg];omega
  omega
structure qM(l:cU)(cs:dX):Prop where
 flat:cs.flatten=l
 fit:∀c∈cs,0<y c/\y (fU c)+4<=512
 GW:cs.Pairwise ii
def qM.kK(h:qM e m)(d:e≠[])(g:∀x∈e,x.Good)(j:eh e):uF (bX 0 m) m where
 len:=kg m 0
 ne:=by
  cases m with
  |nil=>exact absurd h.flat.symm<|by simpa using d
  |cons f m=>simp
 FT:=λi c a=>by
  rw[AJ m 0 i c a];exact XY (h.fit _<|ar a).1 _
 pos:=λi c=>by
  have a:i<y m:=by rw[kg]at c;exact c
  rw[AJ m 0 i c a];simp[OA]
 jf:=λf a x c=>g x (by rw[<-h.flat];grind[mem_flatten])
 mJ:=by rw[h.flat];exact j
 GW:=h.GW
 small:=λf a=>by
  have:=(h.fit f a).2;have:=KY f;omega
def qM.length(h:qM e m):y m<=y e:=by
 rw[<-h.flat];have:=h.fit;clear h;induction m with
 |nil=>simp
 |cons c m b=>
  have a:=(this c<|by simp).1;have f:=b (λd a=>this d<|by simp[a]);grind
def qM.data(h:qM e m):y (dU m)<=512*y m:=by
 have:=h.fit;clear h;induction m with
 |nil=>simp[dU]
 |cons c m b=>
  have a:=(this c<|by simp).2;have g:=b (λd a=>this d<|by simp[a]);rw[pL,af,gO,aO];omega
def wy(k:rV):eF:=le 4 k.size++(le 4 k.count++(eL k.first++eL k.last))
def fP(a:mM):eF:=le 4 (y a)++a.flatMap wy
structure JG(w0 w:Y)(x:M)(k:rV)(o:ab)(bs:eF):Prop where
 own:fg w (z<|G w0) o bs
 box:AO w x k
 ne:cI o≠H x
 aj:Z aw w0 w
def JG.wrote{o:rV}{c:eF}(h:JG a f b o d n)(g:eJ f A d t)(k:fg A (z<|G a) t c):JG a A b o t c:=by
 have i:=ak h.box;refine⟨k,h.box.aj (Z.ep (S:=λj=>cI d=H j) g.grown<|λ_ e=>.inl e) h.ne,λe=>?_,h.aj.trans (Z.ep (S:=λj=>cI d=H j) g.grown<|λ_ e=>.inl e)<|λj e=>.inr (h.own.lt j e).1⟩;rcases g.vQ with m|⟨l,m,p⟩;exact h.ne<|m.symm.trans e;grind
def JG.size{x:M}{k:rV}(h:JG a A x k d n):z (G a)<=z (G A):=h.aj.size
structure rV.Fits(k:rV):Prop where
 size:k.size<=1000000
 count:k.count<=1000000
 first:k.first.size<=255
 last:k.last.size<=255
def NP{k:rV}(h:k.Fits):y (wy k)<=520:=by
 have:=h.first;have:=h.last;simp[wy,eL,cg,iq];omega
def ov{ks:mM}(h:∀k∈ks,k.Fits):y (ks.flatMap wy)<=520*y ks:=by
 induction ks with
 |nil=>simp
 |cons k ks b=>
  have a:=NP (h k<|by simp);have c:=b (λj a=>h j<|by simp[a]);rw[dY,af,aO];omega
def uf{n:U}(a:0<=n)(b:n<4294967296):IntKind.u32.wrap n=n:=by rw[IntKind.wrap_u32];omega
def Kb(a:mM)(u e g:M)(w:Y)(hb:u<z (G w))(hc:∀B al,(eS a)[B]?=H al->aW w (R u<|e+B)=H al)(hl:y a<=1000000)(s:∀V∈a,V.Fits):cY bA 220 #[bI u e (y a) g] w λA w'=>∃v',A=aN v'/\fg w' (z<|G w) v' (fP a)/\Z aw w w':=by
 have t:=jN (baseqq:=z<|G w) (v:=az) (bs:=[]) (y a:M) (w:=w) (fg.nil _ _) (ag _) (by simp) (by omega) (by omega);have e0:=uf (n:=(y a:M)) (by omega) (by omega);have HC:=X hc;have HK:=X s;go_in
 go_wp2_with(go_at_call 181;refine t.mono ?_;rintro A w1⟨v1,rfl,k,l⟩;have C:=X k;have D:=X l)
 go_loopw [3,12] (λo i wr=>∃n:M,n<=y a/\i=aq n/\fg wr (z<|G w) o (le 4 (y a)++(a.take n).flatMap wy)/\Z aw w wr) (λ_ i _=>y a-(intOf i).toNat)
 case atStart=>exact⟨0,bK _,rfl,by simpa using J C,Z.ep (S:=aw) D.grown (by intro V s;simp[cI]at s)⟩
 (case round=>obtain⟨n,hn,rfl,d,j⟩:=hrel;have ad:=j.size;by_cases i:n<y a;(.have r:∀B ac,B<5->(rV.cells a[n])[B]?=H ac->aW wr (R u<|e+n*5+B)=H ac:=λB ac b c=>j.cell (by rw[bD];exact HC _ _<|(iL a n B i b).trans c) (λd=>d) hb;have x:=HK a[n]<|ar i;(have aa:y (le 4 (y a)++(a.take n).flatMap wy)<=600000000:=by have h1:=ov (ks:=a.take n)<|λV s=>HK V<|gC s;grind[length_append,cg]);have HS:=X (show(le 4 (y a)++(a.take n).flatMap wy)++wy a[n]=le 4 (y a)++(a.take<|n+1).flatMap wy from by rw[bj,ah i,fJ];simp);generalize a[n]=V at*;generalize le 4 (y a)++(a.take n).flatMap wy=v at*;obtain⟨pos,c,b,first,f⟩:=V;have p0:=r 0 _ (by omega) rfl;have p1:=r 1 _ (by omega) rfl;have p2:=r 2 _ (by omega) rfl;have p3:=r 3 _ (by omega) rfl;have p4:=r 4 _ (by omega) rfl;simp only[kL]at p0 p1 p2 p3 p4;have f1:=x.size;have f2:=x.count;have f3:=x.first;have f4:=x.last;simp only at f1 f2 f3 f4;have e1:=uf (n:=(c:M)) (by omega) (by omega);have e2:=uf (n:=(b:M)) (by omega) (by omega);have hA:JG w (dd wr<|ay #[aq pos,aq c,aq b,am first,am f] 320) (z<|G wr) ⟨pos,c,b,first,f⟩ u3 v:=⟨d.alloc _,aK _ rfl,λA=>by have:=(d.lt _ A).2;omega,j.alloc _⟩;have W:=X hA;(go_wp2_with fail);refine(jN (c:M) W.own (by simp;omega) (by omega) (by omega)<|by omega).mono ?_;rintro A w1⟨v1,rfl,k,l⟩;have hA1:=W.wrote l k;obtain⟨k0,k1,k2,k3,k4⟩:=hA1.box.cells;simp only at k0 k1 k2 k3 k4;have L:=hA1.size;have m:=X hA1;(go_wp2_with fail);refine(jN (b:M) m.own L (by rw[af,cg];omega) (by omega)<|by omega).mono ?_;rintro A w2⟨v2,rfl,E,P⟩;have hA2:=m.wrote P E;obtain⟨m0,m1,m2,m3,m4⟩:=hA2.box.cells;simp only at m0 m1 m2 m3 m4;have N:=hA2.size;have o:=X hA2;(go_wp2_with fail);refine(pR (z<|G w) v2 ((v++le 4 c)++le 4 b) first _ o.own N (by rw[af,af,cg,cg];omega) f3).mono ?_;rintro A w3⟨v3,rfl,F,Q⟩;have hA3:=o.wrote Q F;obtain⟨q0,q1,q2,q3,q4⟩:=hA3.box.cells;simp only at q0 q1 q2 q3 q4;have O:=hA3.size;have p:=X hA3;(go_wp2_with fail);refine(pR (z<|G w) v3 (((v++le 4 c)++le 4 b)++(first.size:U)::kZ first) f _ p.own O (by grind[length_append,cg,length_cons,iq]) f4).mono ?_;rintro A w4⟨v4,rfl,K,T⟩;have hA4:=p.wrote T K;have q:=X hA4;go_wp2;go_roundw;(case rel=>refine⟨n+1,i,by go_num,?_,q.aj⟩;rw[<-J HS];have:=q.own;simpa[wy,eL]using this);case measure=>simp[intOf];omega);(have b:n=y a:=by omega);subst b;rw[aY]at d;have c:=X d;have f:=X j;go_wp2;go_ret;exact⟨_,rfl,c,f⟩)
abbrev Fs:=ci<|ae×eF
variable{D:Fs}
def vw(a:ci aX):Fs:=a.map<|λf=>(f.name,f.bytes)
def cX:Fs->ae->Option eF
 |[],_=>none
 |f::r,n=>if f.1=n then H f.2 else cX r n
def xY:Fs->ae->Fs
 |[],_=>[]
 |f::r,n=>if f.1=n then r else f::xY r n
def ow:Fs->ae×eF->Fs
 |[],f=>[f]
 |g::r,f=>if g.1=f.1 then f::r else g::ow r f
def pI(a:Fs):M:=(a.map (·.2.length)).sum
def wa(a:ci aX):eV a=pI (vw a):=by
 unfold eV pI vw;rw[ee];rfl
theorem kQ(a:ci aX)(n:ae):cX (vw a) n=(dV a n).map aX.bytes:=by
 induction a with
 |nil=>rfl
 |cons f r b=>
  unfold vw at*;by_cases h:f.name=n<;>simp[cX,dV,h,b]
theorem Vy(a:ci aX)(n:ae):vw (jg a n)=xY (vw a) n:=by
 induction a with
 |nil=>rfl
 |cons f r b=>
  unfold vw at*;by_cases h:f.name=n<;>simp[xY,jg,h,b]
theorem wO(a:ci aX)(f:aX):vw (mL a f)=ow (vw a) (f.name,f.bytes):=by
 induction a with
 |nil=>rfl
 |cons g r b=>
  unfold vw at*;by_cases h:g.name=f.name<;>simp[ow,mL,h,b]
theorem zB(h:cX D r=H n):ow D (r,n)=D:=by
 induction D with
 |nil=>cases h
 |cons g d b=>
  obtain⟨a,c⟩:=g;by_cases e:a=r
  .subst e;simp[cX]at h;simp[ow,h]
  .simp[cX,e]at h;simp[ow,e,b h]
def Jk(d c:eF)(h:cX D r=none):ow (D++[(r,d)]) (r,c)=D++[(r,c)]:=by
 induction D with
 |nil=>simp[ow]
 |cons g i b=>
  obtain⟨a,f⟩:=g;by_cases e:a=r
  .simp[cX,e]at h
  .simp[cX,e]at h;simp[ow,e,b h]
def gu(a b:Fs)(n:ae):cX (a++b) n=(cX a n).or (cX b n):=by
 induction a with
 |nil=>simp[cX]
 |cons g r c=>by_cases e:g.1=n<;>simp[cX,e,c]
def lI(b:Fs)(f:ae×eF)(n:ae):cX (ow b f) n=if f.1=n then H f.2 else cX b n:=by
 induction b with
 |nil=>by_cases e:f.1=n<;>simp[ow,cX,e]
 |cons h r g=>
  by_cases e:h.1=f.1
  .by_cases a:f.1=n<;>simp[ow,cX,e,a]
  .by_cases a:h.1=n
   .have c:¬f.1=n:=(by grind);have d:¬n=f.1:=λa=>c a.symm;simp[ow,cX,a,c,d]
   .simp[ow,cX,e,a,g]
def oD(h:cX D r=H n):(r,n)∈D:=by
 induction D with
 |nil=>cases h
 |cons g d c=>
  obtain⟨a,b⟩:=g;by_cases e:a=r
  .subst e;simp[cX]at h;simp[h]
  .simp[cX,e]at h;grind
theorem ji(h:cX (vw P) r=H n):∃F,dV P r=H F/\F.bytes=n:=by
 rw[kQ]at h;simp_all
def tr(h:cX (vw P) r=none):dV P r=none:=by
 rw[kQ]at h;simp_all
def EL(C:jT [.cr r,.ap r n,.sy r] g x)(f:cX (vw g.files) r=none):vw x.files=vw g.files++[(r,n)]/\y x.eP=y g.eP+1:=by
 obtain⟨h,⟨D,u,l,w,m⟩,i,⟨F,E,j,o,A,p⟩,v,⟨e,k,c1,c2,c3⟩,q,B,s⟩:=C;have c:vw h.files=vw g.files++[(r,[])]:=by rw[l];simp[vw]
 have b:cX (vw h.files) r=H []:=by rw[c,gu,f];simp[cX]
 have hF:F.bytes=[]:=by rw[kQ,j]at b;simpa using b
 have d:vw i.files=vw g.files++[(r,n)]:=by rw[o,wO];simp only[hF,du,(dq j).1];rw[c];exact Jk [] n f
 have a:cX (vw i.files) r=H n:=by rw[d,gu,f];simp[cX]
 have t:e.bytes=n:=by rw[kQ,k]at a;simpa using a
 refine⟨?_,by rw[s,c3,p,m.1];simp⟩;rw[q,c1,wO];simp only[t,(dq k).1];rw[zB a,d]
def LN{db:M}{K:DK}(a:ae)(al b g:M){bs:eF}{w:Y}(h:bY w db K)(hg:cX (vw K.files) a=none)(hn:y K.eP<=1000000000000)(ad:EH K.fx)(T:y bs<=1099511627776)(ac:kr bs)(V:∀ao ap,(bs.map<|Value.int .u8)[ao]?=H ap->aW w (R al<|b+ao)=H ap)(f:al<z (G w))(t:¬K.aL db al)(v:Nm a):cY bA 221 #[aD db,am a,bI al b (y bs) g] w λA x=>ye w x db K [.cr a,.ap a bs,.sy a] A:=by
 have aa:=tr hg;have W:=Jy a h aa hn v
 have HX:=X (show∀j c,qQ w j db K c->xH (.cr a) K c->cY bA 117 #[aD db,am a,bI al b (y bs) g] j λA x=>ye j x db c [.ap a bs] A from by
  rintro j c u⟨au,i,hf,_⟩;have hv:vw c.files=vw K.files++[(a,[])]:=by rw[hf];simp[vw]
  have e:cX (vw c.files) a=H []:=by rw[hv,gu,hg];simp[cX]
  obtain⟨an,hF,s⟩:=ji e;exact JD a al b g bs u.ok hF (.inl (u.fx.o6 ad)) T ac (λao ap c=>u.aj.cell (V ao ap c) t f) (ai f u.aj.size) (λA=>t (.inl A)) v)
 have HY:=X (show∀k c d,xH (.cr a) K c->xH (.ap a bs) c d->bY k db d->cY bA 104 #[aD db,am a] k λA x=>ye k x db d [.sy a] A from by
  rintro k c d⟨au,i,hf,_⟩⟨an,ax,B,p,C,r⟩u;have hv:vw c.files=vw K.files++[(a,[])]:=by rw[hf];simp[vw]
  have e:cX (vw c.files) a=H []:=by rw[hv,gu,hg];simp[cX]
  have s:an.bytes=[]:=by
   rw[kQ,B]at e;simpa using e
  have av:cX (vw d.files) a=H bs:=by
   rw[p,wO,lI];simp[(dq B).1,s]
  grind[ji,Rw])
 have HO:=X h.tu;go_in
 go_wp2_with fail
 apply W.mono;rintro A j⟨v1,c,rfl,D⟩;rcases D.wG with⟨rfl,o1⟩|⟨aU,q,aF,r1,r2,rfl,r3⟩;rotate_left;(.have o:=X D;go_wp2;go_ret;exact⟨_,c,rfl,zO.more (m:=[.ap a bs,.sy a])<|J o⟩);have s1:xH (.cr a) K c:=by obtain⟨K',O,P,Q,S⟩:=o1;obtain⟨au,i,p,C,r⟩:=O;exact⟨au,i,P.trans p,Q.trans C,S.trans r.1,r.2⟩
 have ha:=HX j c D.pa s1;obtain⟨l,n,N⟩:=dF D.pa o1 s1;go_wp2_with fail
 apply ha.mono;rintro A k⟨v2,d,rfl,E⟩;rcases E.wG with⟨rfl,o2⟩|⟨aU,q,aF,r1,r2,rfl,r3⟩;rotate_left;(.have o:=X<|zO.more (m:=[.sy a])<|zO.seq HO l n E;go_wp2;go_ret;exact⟨_,d,rfl,o⟩);have s2:xH (.ap a bs) c d:=by obtain⟨K',O,P,Q,S⟩:=o2;obtain⟨an,ax,B,p,C,r⟩:=O;exact⟨an,ax,B,P.trans p,Q.trans C,S.trans r⟩
 have hs:=HY k c d N s2 E.pa.ok;have F:=X<|l.trans E.pa;have L:=X<|jT.Hk n o2;go_wp2_with fail
 apply hs.mono;rintro A w3⟨v3,K3,rfl,h3⟩;have hr:=zO.seq HO F L h3;have o:=X hr;go_wp2;go_ret;exact⟨_,K3,rfl,o⟩
def RG{db:M}{K:DK}(a:ae){bs:eF}{w:Y}(h:bY w db K)(C:cX (vw K.files) a=H bs)(l:Nm a):cY bA 41 #[aD db,am a] w λv N=>Z0 w N db K bs v:=by
 obtain⟨F,hF,rfl⟩:=ji C;have D:y F.bytes<=1099511627776:=h.len (dq hF).2.1;have t:=Ry a h l;have p:=X<|λ(u:Y)B(i:qQ w u db K {K with fx:=B})=>CV a 0 (y F.bytes) i.ok hF (bK _) D l;have A:=X h.tu;go_in
 go_wp2_with fail
 apply t.mono;rintro v u⟨B,i,⟨x,g,rfl⟩|⟨g,_⟩|⟨r,q,rfl,s⟩⟩;(·(obtain rfl:F=x:=by rw[hF]at g;cases g;rfl);have m:=p u B i;rw[List.drop_zero,aY]at m;have e:=X i;(go_wp2_with fail);apply m.mono;rintro v O⟨f,j,n,k,⟨L,rfl,E⟩|⟨r,q,rfl,s⟩⟩;(.have b:=X<|e.trans j;have HB:=X<|RM E e.aj.size;obtain⟨d,c⟩:Hid (qc _ f)/\Hid (∀a,f.aL db a->K.aL db a):=⟨n,k⟩;go_wp2;(go_ret2);exact⟨f,b,d,c,.inl ⟨L,rfl,HB⟩⟩);have b:=X<|e.trans j;have HB:=X<|e.fx.pos A r;have o:=X s;obtain⟨d,c⟩:Hid (qc _ f)/\Hid (∀a,f.aL db a->K.aL db a):=⟨n,k⟩;go_wp2;(go_ret2);exact⟨f,b,d,c,.inr ⟨HB,q,rfl,o⟩⟩);rw[hF]at g;cases g;obtain⟨e,HB,o⟩:=dF i r s;go_wp2;(go_ret2);exact⟨_,e,⟨rfl,rfl,rfl⟩,λ_ v=>v,.inr ⟨HB,q,rfl,o⟩⟩
def Y8(w c:Y)(b:M)(K:DK)(e:Ending):Prop:=∃a q d,qQ w c b K a/\qc K a/\(∀k,a.aL b k->K.aL b k)/\e=aN (dA #[az,fj q])/\sF c q d/\(d=10\/d=8/\0<K.fx.bd)
def IN{db:M}{K:DK}(a:ae){w:Y}(h:bY w db K)(l:cX (vw K.files) a=none)(e:Nm a):cY bA 41 #[aD db,am a] w λi m=>Y8 w m db K i:=by
 have g:=Ry a h e;have hF:=tr l;go_in
 go_wp2_with fail
 apply g.mono;rintro i o⟨p,j,⟨n,d,rfl⟩|⟨d,q,rfl,f⟩|⟨k,q,rfl,f⟩⟩;rw[hF]at d;cases d;(.have b:=X j;have c:=X f;go_wp2;(go_ret2);exact⟨_,q,10,b,⟨rfl,rfl,rfl⟩,λ_ i=>i,rfl,c,.inl rfl⟩);obtain⟨b,HB,c⟩:=dF j k f;go_wp2;(go_ret2);exact⟨_,q,8,b,⟨rfl,rfl,rfl⟩,λ_ i=>i,rfl,c,.inr ⟨rfl,HB⟩⟩
section
open Shelf
def Ky:Go.Shelf.Ren:=⟨λ|14=>185|16=>233|17=>234|19=>257|20=>258|21=>259|22=>260|23=>261|24=>262|25=>120|27=>278|26=>277|28=>283|29=>285|30=>200|31=>201|32=>202|33=>203|35=>199|34=>242|36=>243|37=>244|38=>245|39=>264|40=>265|n=>n,λ|9=>9|3=>3|22=>74|24=>41|25=>314|4=>4|34=>381|5=>5|36=>23|37=>86|0=>0|39=>383|21=>21|44=>398|47=>312|50=>405|48=>403|2=>2|52=>332|55=>334|59=>371|60=>67|20=>20|61=>372|65=>399|66=>400|67=>200|n=>n,λ|0=>3|1=>4|2=>2|3=>5|4=>6|n=>n⟩
def WJ:Go.Proofs.LaysPu.n14 bA Ky:={mixed:=by kernel_rfl,f14:=func185.trans (bS H<|by kernel_rfl),f16:=func233.trans (bS H<|by kernel_rfl),f17:=func234.trans (bS H<|by kernel_rfl),f19:=func257.trans (bS H<|by kernel_rfl),f20:=func258.trans (bS H<|by kernel_rfl),f21:=func259.trans (bS H<|by kernel_rfl),f22:=func260.trans (bS H<|by kernel_rfl),f23:=func261.trans (bS H<|by kernel_rfl),f24:=func262.trans (bS H<|by kernel_rfl),f25:=func120.trans (bS H<|by kernel_rfl),f26:=func277.trans (bS H<|by kernel_rfl),f27:=func278.trans (bS H<|by kernel_rfl),f28:=func283.trans (bS H<|by kernel_rfl),f29:=func285.trans (bS H<|by kernel_rfl),f30:=func200.trans (bS H<|by kernel_rfl),f31:=func201.trans (bS H<|by kernel_rfl),f32:=func202.trans (bS H<|by kernel_rfl),f33:=func203.trans (bS H<|by kernel_rfl),f34:=func242.trans (bS H<|by kernel_rfl),f35:=func199.trans (bS H<|by kernel_rfl),f36:=func243.trans (bS H<|by kernel_rfl),f37:=func244.trans (bS H<|by kernel_rfl),f38:=func245.trans (bS H<|by kernel_rfl),f39:=func264.trans (bS H<|by kernel_rfl),f40:=func265.trans (bS H<|by kernel_rfl),t0:=underlying0,a0:=isAgg0,z0:=sizeOf0,v0:=zeroValue0,i0:=by kernel_rfl,t2:=underlying2,a2:=isAgg2,z2:=sizeOf2,v2:=zeroValue2,i2:=by kernel_rfl,t3:=underlying3,a3:=isAgg3,z3:=sizeOf3,v3:=zeroValue3,i3:=by kernel_rfl,t4:=underlying4,a4:=isAgg4,z4:=sizeOf4,v4:=zeroValue4,i4:=by kernel_rfl,t5:=underlying5,a5:=isAgg5,z5:=sizeOf5,v5:=zeroValue5,i5:=by kernel_rfl,t9:=underlying9,a9:=isAgg9,z9:=sizeOf9,v9:=zeroValue9,i9:=by kernel_rfl,t20:=underlying20,a20:=isAgg20,z20:=sizeOf20,v20:=zeroValue20,i20:=by kernel_rfl,t21:=underlying21,a21:=isAgg21,z21:=sizeOf21,v21:=zeroValue21,i21:=by kernel_rfl,t22:=underlying74,a22:=isAgg74,z22:=sizeOf74,v22:=zeroValue74,i22:=by kernel_rfl,t24:=underlying41,a24:=isAgg41,z24:=sizeOf41,v24:=zeroValue41,i24:=by kernel_rfl,t25:=underlying314,a25:=isAgg314,z25:=sizeOf314,v25:=zeroValue314,i25:=by kernel_rfl,t34:=underlying381,a34:=isAgg381,z34:=sizeOf381,v34:=zeroValue381,i34:=by kernel_rfl,c34:=by kernel_rfl,t36:=underlying23,a36:=isAgg23,z36:=sizeOf23,v36:=zeroValue23,i36:=by kernel_rfl,t37:=underlying86,a37:=isAgg86,z37:=sizeOf86,v37:=zeroValue86,i37:=by kernel_rfl,t39:=underlying383,a39:=isAgg383,z39:=sizeOf383,v39:=zeroValue383,i39:=by kernel_rfl,t44:=underlying398,a44:=isAgg398,z44:=sizeOf398,v44:=zeroValue398,i44:=by kernel_rfl,t47:=underlying312,a47:=isAgg312,z47:=sizeOf312,v47:=zeroValue312,i47:=by kernel_rfl,t48:=underlying403,a48:=isAgg403,z48:=sizeOf403,v48:=zeroValue403,i48:=by kernel_rfl,t50:=underlying405,a50:=isAgg405,z50:=sizeOf405,v50:=zeroValue405,i50:=by kernel_rfl,t52:=underlying332,a52:=isAgg332,z52:=sizeOf332,v52:=zeroValue332,i52:=by kernel_rfl,t55:=underlying334,a55:=isAgg334,z55:=sizeOf334,v55:=zeroValue334,i55:=by kernel_rfl,t59:=underlying371,a59:=isAgg371,z59:=sizeOf371,v59:=zeroValue371,i59:=by kernel_rfl,t60:=underlying67,a60:=isAgg67,z60:=sizeOf67,v60:=zeroValue67,i60:=by kernel_rfl,t61:=underlying372,a61:=isAgg372,z61:=sizeOf372,t65:=underlying399,a65:=isAgg399,z65:=sizeOf399,v65:=zeroValue399,i65:=by kernel_rfl,t66:=underlying400,a66:=isAgg400,z66:=sizeOf400,v66:=zeroValue400,i66:=by kernel_rfl,t67:=underlying200,a67:=isAgg200,z67:=sizeOf200,v67:=zeroValue200,i67:=by kernel_rfl,g0:=by kernel_rfl,m0:=by kernel_rfl,g1:=by kernel_rfl,m1:=by kernel_rfl,g2:=by kernel_rfl,m2:=by kernel_rfl,g3:=by kernel_rfl,m3:=by kernel_rfl,g4:=by kernel_rfl,m4:=by kernel_rfl}
theorem Ox(w:Y)(e:TypeId)(s:ae):Below (z<|G w) w (Lib.bytesWorld w e s):=⟨rfl,rfl,rfl,by rw[Lib.bytesWorld_size];omega,λk a=>Lib.bytesWorld_at_old w e s k<|by omega⟩
end
def Tv:∀u,u<18446744073709551616->∀r,Lib.parseUintM (2^64-1) 0 (Lib.decDigits u++r)=Lib.parseUintM (2^64-1) u r:=by
 intro u;induction u using Nat.strongRecOn with
 |_ u a=>
  intro b r;by_cases h:u<10
  .rw[Lib.decDigits_one h];have e:(UInt8.ofNat<|48+u).toNat=48+u:=by simp;omega
   simp only[cR,du,Lib.parseUintM,e];rw[di (by omega),dt (by omega),dt<|by omega];grind
  .have e:(UInt8.ofNat<|48+u%10).toNat=48+u%10:=by simp;omega
   rw[Lib.decDigits,dif_neg h,bj,a (u/10) (by omega)<|by omega];simp only[cR,du,Lib.parseUintM,e];rw[di (by omega),dt (by omega),dt<|by omega];grind
def IU(a:b<18446744073709551616)(w:Y):cY bA 185 #[am<|yZ b,aq 10,aq 64] w λe c=>e=aN (dA #[aG b,.nilIface])/\Z aw w c:=by
 have h:=Any.strconv_ParseUint_10_at64_ok WJ (yZ b) (by have:=rF b a;omega) b (by
  have e:(yZ b).data.toList=Lib.decDigits b:=by simp[yZ]
  rw[e];unfold Lib.parseUintB;rw[dt]
  .have:=Tv b a [];rw[dz]at this;rw[this];rfl
  .intro d;have:=bS y d;rw[Lib.decDigits_length]at this;have f:=Lib.lt_pow_nDigits b;grind[Lib.decDigits.eq_1]) w
 refine Ai h ?_;grind[Z.refl,Z.aQ,Ox]
def Xs(p r:ae):(p++r).extract 0 p.size=p:=ByteArray.extract_append_eq_left rfl
def UG(p r:ae):(p++r).extract p.size (p.size+r.size)=r:=ByteArray.extract_append_eq_right rfl rfl
def PM(p r:ae)(d:p.size<=100)(f:r.size<=100)(w:Y):cY bA 256 #[am<|p++r,am p] w λe b=>e=aN (aM cf)/\b=w:=by
 have g:(p++r).size=p.size+r.size:=lA;have c:=Xs p r;generalize p++r=s at*;have a:(p.size:U)<=(s.size:U):=by omega
 go_in
 go_wp2;go_ret;simp_all
def Oi(p r:ae)(f:p.size<=100)(g:r.size<=100)(w:Y):cY bA 184 #[am<|p++r,am p] w λe b=>e=aN (dA #[am r,aM cf])/\b=w:=by
 have a:=PM p r f g w;have k:(p++r).size=p.size+r.size:=lA;have j:=UG p r;have d:cY bA 232 #[am<|p++r,am p] w λe b=>e=aN (dA #[am r,aM cf])/\b=w:=by generalize p++r=s at*;(go_in);(go_wp2_with(go_at_call 256;refine a.mono ?_;rintro e c⟨rfl,i⟩;subst c));(go_ret2);simp_all
 generalize p++r=s at*;go_in
 go_wp2_with(go_at_call 232;refine d.mono ?_;rintro e c⟨rfl,i⟩;subst c)
 go_ret2
 simp_all
def GK(s p:ae)(n:s.size<=1000)(m:p.size<=100)(d:p.size<=s.size->s.extract 0 p.size≠p)(w:Y):cY bA 184 #[am s,am p] w λe a=>e=aN (dA #[am s,aM bw])/\a=w:=by
 have f:cY bA 256 #[am s,am p] w λe a=>e=aN (aM bw)/\a=w:=by by_cases c:p.size<=s.size;(.have l:=d c;(have b:(p.size:U)<=(s.size:U):=by omega);(have k:((s.extract 0 p.size).toList==p.toList)=bw:=by rw[oT];grind[GU]);(go_in);go_wp2;go_ret;simp_all);(have b:¬(p.size:U)<=(s.size:U):=by omega);(go_in);go_wp2;go_ret;simp_all
 have i:cY bA 232 #[am s,am p] w λe a=>e=aN (dA #[am s,aM bw])/\a=w:=by(go_in);(go_wp2_with(go_at_call 256;refine f.mono ?_;rintro e g⟨rfl,j⟩;subst g));(go_ret2);simp_all
 go_in
 go_wp2_with(go_at_call 232;refine i.mono ?_;rintro e g⟨rfl,j⟩;subst g)
 go_ret2
 simp_all
def Zk(u:M):ui.size<=(dj u).size->(dj u).extract 0 ui.size≠ui:=λ_ c=>by
 have h:=tv c;rw[ByteArray.data_extract,Array.toList_extract,tG]at h;have:=bS (λl:ci UInt8=>l[0]?) h;simp[List.extract,show ui.size=6 from rfl,show ui.data.toList=[116,97,98,108,101,45]from rfl]at this
def Ym(w a:Y)(e:Ending)(n:U)(ok:Bool):Prop:=e=aN (dA #[aG n,aM ok])/\Z aw w a
def FU(j:b<18446744073709551616)(p:Pow a):cY bA 121 #[am<|fG b] a λn q=>Ym a q n b cf:=by
 have s:=rF b j;have i:=IU j a;have g:=λW(h:Z aw a W)=>qK b j<|Pow.aj p h id;have l:=Oi ui (yZ b) (by decide) (by omega) a;rw[show ui++yZ b=fG b from rfl]at l;generalize fG b=m at*;go_in
 go_wp2_with fail
 apply l.mono;rintro n k⟨rfl,r⟩;subst k;go_wp2_with fail
 apply i.mono;rintro n k⟨rfl,c⟩;have o:=g k c;have d:=X c;go_wp2_with fail
 apply o.mono;rintro n t⟨rfl,f⟩;have e:=X<|d.cz<|Z.aQ (S:=aw) f;go_wp2;go_ret2
 exact⟨rfl,e⟩
def FX(l:b<18446744073709551616)(r:Pow a):cY bA 121 #[am<|dj b] a λm t=>Ym a t m b cf:=by
 have u:=rF b l;have j:=IU l a;have i:=λW(h:Z aw a W)=>qK b l<|Pow.aj r h id;have k:(dj b).size<=1000:=by unfold dj;rw[lA];have:SX.size<=100:=(by decide);omega
 have q:=GK (dj b) ui k (by decide) (Zk b) a;have n:=Oi SX (yZ b) (by decide) (by omega) a;rw[show SX++yZ b=dj b from rfl]at n;generalize dj b=o at*;go_in
 go_wp2_with fail
 apply q.mono;rintro m d⟨rfl,s⟩;subst d;go_wp2_with fail
 apply n.mono;rintro m d⟨rfl,s⟩;subst d;go_wp2_with fail
 apply j.mono;rintro m d⟨rfl,c⟩;have p:=i d c;have e:=X c;go_wp2_with fail
 apply p.mono;rintro m v⟨rfl,g⟩;have f:=X<|e.cz<|Z.aQ (S:=aw) g;go_wp2;go_ret2
 exact⟨rfl,f⟩
def FW(w:Y):cY bA 121 #[am ik] w λe g=>Ym w g e 0 bw:=by
 have c:=GK ik ui (by decide) (by decide) (λ_=>by decide) w;have d:=GK ik SX (by decide) (by decide) (λ_=>by decide) w;generalize ik=b at*;go_in
 go_wp2_with fail
 apply c.mono;rintro e a⟨rfl,f⟩;subst a;go_wp2_with fail
 apply d.mono;rintro e a⟨rfl,f⟩;subst a;go_wp2;go_ret2
 exact⟨rfl,Z.refl _ _⟩
def Wg(h:cY bA 121 #[am r] a λe b=>Ym a b e k cf):cY bA 94 #[am r] a λe b=>e=aN (aM cf)/\Z aw a b:=by
 go_in
 go_wp2_with fail
 apply h.mono;rintro e f⟨rfl,d⟩;have c:=X d;go_wp2;go_ret;exact⟨rfl,c⟩
def D8(w:Y):cY bA 94 #[am ik] w λe d=>e=aN (aM cf)/\Z aw w d:=by
 have h:=FW w;have f:(ik.toList==[115,116,97,116,101])=bw:=by kernel_rfl
 have g:(ik.toList==[115,116,97,116,101,46,110,101,119])=cf:=by kernel_rfl
 generalize ik=a at*;go_in
 go_wp2_with fail
 apply h.mono;rintro e i⟨rfl,c⟩;have b:=X c;go_wp2;go_ret;exact⟨rfl,b⟩
section
open Shelf
def Kw:Go.Shelf.Ren:=⟨λ|25=>120|n=>n,λ|9=>9|3=>3|4=>4|37=>86|0=>0|47=>312|5=>5|n=>n,λ|n=>n⟩
def WI:Go.Proofs.LaysPu.n25 bA Kw:={mixed:=by kernel_rfl,f25:=func120.trans (bS H<|by kernel_rfl),t0:=underlying0,a0:=isAgg0,z0:=sizeOf0,v0:=zeroValue0,i0:=by kernel_rfl,t3:=underlying3,a3:=isAgg3,z3:=sizeOf3,v3:=zeroValue3,i3:=by kernel_rfl,t4:=underlying4,a4:=isAgg4,z4:=sizeOf4,v4:=zeroValue4,i4:=by kernel_rfl,t5:=underlying5,a5:=isAgg5,z5:=sizeOf5,v5:=zeroValue5,i5:=by kernel_rfl,t9:=underlying9,a9:=isAgg9,z9:=sizeOf9,v9:=zeroValue9,i9:=by kernel_rfl,t37:=underlying86,a37:=isAgg86,z37:=sizeOf86,v37:=zeroValue86,i37:=by kernel_rfl,t47:=underlying312,a47:=isAgg312,z47:=sizeOf312,v47:=zeroValue312,i47:=by kernel_rfl}
def tI(s:ae)(w:Y)(d:s.size<=281474976710656):cY bA 75 #[am s] w λe a=>e=aN (am s)/\Below (z<|G w) w a:=by
 have h:=AnyPu.stringslite_Clone WI s w d;have c:cY bA 120 #[am s] w λe a=>e=aN (am s)/\Below (z<|G w) w a:=h;clear h;go_in
 go_wp2_with fail
 apply c.mono;rintro e f⟨rfl,b⟩;have HB:=X b;clear b;go_wp2;go_ret;exact⟨rfl,HB⟩
end
section
open Shelf
def Nv:Go.Shelf.Ren:=⟨λ|190=>80|125=>133|258=>132|128=>198|129=>199|302=>189|303=>190|304=>191|305=>192|306=>193|307=>194|308=>195|309=>196|310=>197|333=>236|329=>237|330=>238|334=>239|335=>240|336=>241|344=>263|n=>n,λ|31=>115|9=>9|3=>3|46=>23|0=>0|51=>67|53=>74|4=>4|183=>323|182=>322|131=>327|5=>5|218=>365|222=>368|228=>386|229=>387|n=>n,λ|n=>n⟩
def Tryz.lays190:Go.Proofs.Lays.n190 bA Nv:={mixed:=by kernel_rfl,f125:=func133.trans (bS H<|by kernel_rfl),f128:=func198.trans (bS H<|by kernel_rfl),f129:=func199.trans (bS H<|by kernel_rfl),f190:=func80.trans (bS H<|by kernel_rfl),f258:=func132.trans (bS H<|by kernel_rfl),f302:=func189.trans (bS H<|by kernel_rfl),f303:=func190.trans (bS H<|by kernel_rfl),f304:=func191.trans (bS H<|by kernel_rfl),f305:=func192.trans (bS H<|by kernel_rfl),f306:=func193.trans (bS H<|by kernel_rfl),f307:=func194.trans (bS H<|by kernel_rfl),f308:=func195.trans (bS H<|by kernel_rfl),f309:=func196.trans (bS H<|by kernel_rfl),f310:=func197.trans (bS H<|by kernel_rfl),f329:=func237.trans (bS H<|by kernel_rfl),f330:=func238.trans (bS H<|by kernel_rfl),f333:=func236.trans (bS H<|by kernel_rfl),f334:=func239.trans (bS H<|by kernel_rfl),f335:=func240.trans (bS H<|by kernel_rfl),f336:=func241.trans (bS H<|by kernel_rfl),f344:=func263.trans (bS H<|by kernel_rfl),t0:=underlying0,a0:=isAgg0,z0:=sizeOf0,v0:=zeroValue0,t3:=underlying3,a3:=isAgg3,z3:=sizeOf3,v3:=zeroValue3,t4:=underlying4,a4:=isAgg4,z4:=sizeOf4,v4:=zeroValue4,t5:=underlying5,a5:=isAgg5,z5:=sizeOf5,v5:=zeroValue5,t9:=underlying9,a9:=isAgg9,z9:=sizeOf9,v9:=zeroValue9,t31:=underlying115,a31:=isAgg115,z31:=sizeOf115,v31:=zeroValue115,t46:=underlying23,a46:=isAgg23,z46:=sizeOf23,v46:=zeroValue23,t51:=underlying67,a51:=isAgg67,z51:=sizeOf67,v51:=zeroValue67,t53:=underlying74,a53:=isAgg74,z53:=sizeOf74,v53:=zeroValue74,t131:=underlying327,a131:=isAgg327,z131:=sizeOf327,v131:=zeroValue327,t182:=underlying322,a182:=isAgg322,z182:=sizeOf322,v182:=zeroValue322,t183:=underlying323,a183:=isAgg323,z183:=sizeOf323,v183:=zeroValue323,t218:=underlying365,a218:=isAgg365,z218:=sizeOf365,v218:=zeroValue365,t222:=underlying368,a222:=isAgg368,z222:=sizeOf368,v222:=zeroValue368,t228:=underlying386,a228:=isAgg386,z228:=sizeOf386,v228:=zeroValue386,t229:=underlying387,a229:=isAgg387,z229:=sizeOf387,v229:=zeroValue387}
def strs(a:ci ae):ix:=a.map Value.string
def Kv(w:Y):cY bA 199 #[aG 0] w λe a=>e=aN (aq 0)/\a=w:=by
 go_in
 go_wp2;go_ret;exact⟨by simp;kernel_rfl,rfl⟩
def Ql(w:Y):cY bA 133 #[aG 0] w λe a=>e=aN (aq 0)/\a=w:=by
 have h:=Kv w;go_in
 go_wp2_with(go_at_call 199;refine h.mono ?_;rintro e a⟨rfl,rfl⟩)
 go_wp2;go_ret;exact⟨rfl,rfl⟩
def KE(w:Y):cY bA 189 #[az,aq 0,aq 0] w λe a=>e=aN (dA #[])/\a=w:=by
 go_in
 go_wp2;refine jd 1 ?_;rw[gZ];go_wp2;go_end0;exact⟨rfl,rfl⟩
def VZ(w:Y):cY bA 132 #[az,aq 0,aq 0,aq 0] w λe a=>e=aN (dA #[])/\a=w:=by
 have h:=KE w;go_in
 go_wp2;refine jd 1 ?_;rw[gZ];go_wp2_with fail
 apply h.mono;rintro e a⟨rfl,rfl⟩;go_wp2;refine cy (ju rfl _ _ _) rfl ?_;exact⟨rfl,rfl⟩
def SK(w:Y):cY bA 80 #[az] w λe a=>e=aN (dA #[])/\a=w:=by
 have h:=VZ w;have b:=Ql w;go_in
 go_wp2_with(first|(go_at_call 133;refine b.mono ?_;rintro e a⟨rfl,rfl⟩)|(go_at_call 132;refine h.mono ?_;rintro e a⟨rfl,rfl⟩))
 go_wp2;go_end0;exact⟨rfl,rfl⟩
def VH(c:ci ae)(Q:a.ownsRow b 9 1 d (y c) (strs c))(hn:y c<=1000000000000):cY bA 80 #[d] a λD C=>D=aN (dA #[])/\∃P:ci ae,P.Perm c/\C.ownsRow b 9 1 d (y P) (strs P)/\Z (λB=>cI d=H B) a C:=by
 rcases Q.2 with⟨rfl,h0⟩|⟨u,t,h,rfl,E,v,O,F,K,q⟩;apply(SK a).mono;rintro D C⟨rfl,rfl⟩;exact⟨rfl,c,jx _,Q,Z.refl _ _⟩;obtain⟨k,p⟩:∃k,c.map (λT=>T.data.toList)=k:=⟨_,rfl⟩;(have o:y k=y c:=by rw[<-p,bU]);(have e:∀j(l:j<y c),h[j]?=H (am c[j]):=by intro j l;(have s:(h.toList.take<|y c*1)[j]?=(strs c)[j]?:=by rw[q]);rw[rZ,ph l]at s;rw[<-xV,s];simp[strs,l]);(have V:Go.Sort.Holds encStr a u 0 k.toArray:=by intro j l;(have w:j<y c:=by simpa[o]using l);(have L:j<y k:=by omega);refine⟨?_,by simp[World.frozen?,v]⟩;rw[dM,ct v,e j w];(have:k.toArray[j]! =c[j].data.toList:=by rw[getElem!_pos _ j<|by simpa using L];simp[<-p]);rw[this]);have W:=Any.slices_Sort_string Tryz.lays190 u 0 t k a V (ak v) (by omega);rw[o]at W;apply W.mono;rintro D C⟨rfl,aa,A,rfl⟩;obtain⟨g,x⟩:∃g,k.mergeSort (λc a=>decide<|c<=a)=g:=⟨_,rfl⟩;(have f:g.Perm k:=by rw[<-x];exact List.mergeSort_perm _ _);rw[x];(have r:y g=y c:=by rw[f.length_eq,o]);(have m:(Go.Sort.grow (Go.Sort.putRow encStr (Go.Sort.ahead a aa) u 0 g.toArray) A).heap[u]?=H (ay (Go.Sort.putCells encStr 0 g.toArray h) 9 (0,0)):=by show((a.heap.modify u _)++A)[u]?=_;rw[ua (by simp;exact ak v),qX,di rfl,v];rfl);(have i:∀B,B<z (G a)->B≠u->(Go.Sort.grow (Go.Sort.putRow encStr (Go.Sort.ahead a aa) u 0 g.toArray) A).heap[B]?=a.heap[B]?:=by intro B N n;show((a.heap.modify u _)++A)[B]?=_;rw[ua (by simp;exact N),qX,dt<|λD=>n D.symm]);refine⟨rfl,g.map<|λS=>⟨S.toArray⟩,?_,⟨by simp[strs],.inr ⟨u,t,_,by rw[bU,r],E,m,by rw[bU,r];exact O,F,by simpa[Go.Sort.putCells]using K,?_⟩⟩,rfl,rfl,rfl,?_,?_⟩;have s:=f.map (λS:ci UInt8=>(⟨S.toArray⟩:ae));rw[<-p,ee]at s;(have w:c.map ((λS:ci UInt8=>(⟨S.toArray⟩:ae))∘λT=>T.data.toList)=c:=by(conv=>rhs;rw[<-yj c]);apply oV;intro T _;simp);rw[w]at s;exact s;apply uN;intro j;rw[bU,r,rZ];by_cases l:j<y c;rw[ph l];(have w:j<y g:=by omega);(have:(Go.Sort.putCells encStr 0 g.toArray h).toList[j]?=H (am ⟨g[j].toArray⟩):=by rw[xV];unfold Go.Sort.putCells;rw[Array.getElem?_mapIdx,e j l];simp[w,encStr]);rw[this];simp[strs,w];rw[List.getElem?_take_eq_none (by omega),qV (by simp[strs];omega)];show z (G a)<=((a.heap.modify u _)++A).size;simp;intro B N n;exact i B N<|λD=>n (by rw[D];rfl)
end
def AC:(prog.info? 9).map (λi=>(i.zero,i.size,i.bytes))=H (H<|am ⟨#[]⟩,1,16):=by kernel_rfl
def CN(a:ci ae)(n:ae):strs (a++[n])=strs a++[am n]:=by simp[strs]
def Gn{db:M}{K:DK}{w:Y}(h:bY w db K)(hn:y K.files<=100000000):cY bA 39 #[aD db] w λap w'=>∃v' a,ap=aN v'/\List.Perm a (K.files.map aX.name)/\w'.ownsRow (z<|G w) 9 1 v' (y a) (strs a)/\Z aw w w':=by
 obtain⟨i0,T,ac,ad,al⟩:=dl AC;have aF:=cellAt h.gG 0 rfl;have g:=X h.now;go_in
 go_wp2_with(first
  |(at_range;refine rL _ rfl _ 60 rfl 9 85 underlying60 K.nb _ rfl g ?_;intro w0 A P bb;have F:=X A;have t:=X P))
 go_frame
 go_loopw [3] (λo wr=>∃(ao:ci aX)(a:ci ae),(a++ao.map aX.name).Perm (K.files.map aX.name)/\wr.ownsRow (z<|G w) 9 1 o (y a) (strs a)/\cI o≠H (z<|G w)/\pZ wr K.nb (z<|G w) (K.files.map aX.nm) (ao.map aX.nm)/\Z aw w wr) (λ_ wr=>wr.rangeLeft K.nb<|z<|G w)
 case atStart=>exact⟨K.files,[],jx _,cK _ _ _ _,(by simp[cI]),F,Z.ep t<|by simp⟩
 case round=>
  obtain⟨ao,a,hp,ho,V,Q,ht⟩:=hrel;have ba:y a<=100000000:=by have:=hp.length_eq;grind
  obtain⟨p,o,W⟩:=aC ho;obtain⟨s,HT,HP,N,j⟩:=iY Q ht hp ho V;subst W;go_wp2_with(first
   |(at_next;refine sZ _ rfl _ rfl K.nb (z (G w)) _ _ rfl s ?_ ?_))
  .intro n;obtain rfl:ao=[]:=by simpa using n
   have e:=VH a N (by omega);go_wp2_with fail
   apply e.mono;rintro ap r⟨rfl,q,c,b,f⟩;obtain⟨m,l,i⟩:=dF b f c;clear b f c e;go_wp2;go_ret;refine⟨_,q,rfl,?_,m,HT.trans l<|λk d=>.inr (N.lt k d).1⟩;have:=J HP;simp only[iz,dz]at this;exact i.trans this
  .intro bc pk pv an q E c x aa aU;obtain⟨bg,av,bh,rfl,rfl,D,rfl⟩:=BB E;simp only[aX.nm,jr,io]at D;obtain⟨rfl,rfl⟩:=D;have n:Z (λk=>k=z (G w)) wr q:=fo x;have C:=n.own N (λk d O=>J j<|by rw[d,O]);have B:=c.lt;obtain⟨L,u,l⟩:=dF c (HT.trans n<|by simp) C;have ax:K.nb≠z (G w):=λap=>c.ne ap.symm;have aV:K.nb<z (G w):=g.lt;clear E c x aa n C;go_wp2_with(first
    |(at_builtin;go_loud(refine cC _ rfl (.tmp 14) (.tmp 16) 115 rfl (z (G w)) 9 i0 (.string ⟨#[]⟩) 1 16 underlying115 T ac ad al rfl (by decide) (.slice p (y a) o) (y a) (strs a) rfl (aT l (.cells #[.string av.name] 9)) (R (z (G q)) 0) 1 1 [.string av.name] rfl rfl (pM _ _ _) (by simp[Value.oneCell']) (by omega) (by omega) (by have:=u.size;simp;omega) ?_;intro v2 w3 b i;obtain⟨bf,bd,rfl⟩:=aC b;have m:=X b;have v:=X i;clear b i)))
   have r:=X (show pZ w3 K.nb (z<|G w) (K.files.map aX.nm) (bg.map aX.nm++bh.map aX.nm)from by
    have f:=J v;have e:Z (λk=>cI (I p (y a) o)=H k) q w3:=((Z.refl (λk=>cI (I p (y a) o)=H k) q).alloc _).trans (Z.ep (S:=λk=>cI (I p (y a) o)=H k) f.grown (λk d=>.inl d)) (λk d=>.inl d);refine L.kept (e.block _ (by omega) (λO=>?_)) (e.block _ B (λO=>J j O));have:=(l.lt _ O).1;omega)
   go_roundw;case rel=>
    have f:=J v;have e:Z (λk=>cI (I p (y a) o)=H k) q w3:=((Z.refl (λk=>cI (I p (y a) o)=H k) q).alloc _).trans (Z.ep (S:=λk=>cI (I p (y a) o)=H k) f.grown<|λk d=>.inl d)<|λk d=>.inl d;refine⟨bg++bh,a++[av.name],?_,?_,?_,?_,?_⟩
    .refine List.Perm.trans ?_ HP;rw[bj];refine nC _ ?_;grind[singleton_append,Perm.symm,perm_middle]
    .rw[CN,af];exact m
    .rcases f.vQ with au|⟨bi,au,hg⟩
     .rw[au];exact j
     .rw[au];intro O;cases O;simp at hg;omega
    .rw[aE];exact r
    .exact u.trans e<|λk d=>.inr (l.lt k d).1
   case measure=>rw[(J r).left_eq,(J s).left_eq];simp
