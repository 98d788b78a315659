import Derived.BigCall
import Derived.BigGuard
import Derived.CellFam
import Derived.Ground.MpProg
import Derived.Ground.NamesProg
import Derived.Lib.AppendIntMem
import Derived.Lib.Hide
import Derived.Lib.ItoaLen
import Derived.Lib.ItoaMem
import Derived.Lib.ItoaWalk
import Derived.Lib.Walk
import Derived.Shelf.Pu.Clone
import Derived.Shelf.Pu.ParseUintPublic10
import Derived.Shelf.Sort.Plain
import Derived.Shelf.Strconv.Itoa1
import Derived.Shelf.Strconv.Itoa2
import Derived.Test.YtmnlcbeggagabaaGreatDoorC6
open _root_ renaming List.length→y,Option.some→H,Array.size→z,Go.World.heap→G,Go.Value.ownBlock→cz,Go.World.alloc→cG,Bool.false→bj,Bool.true→ci,Nat→M,Int→U,List→cS,Go.Calls→cD,Go.Proofs.Tryz.prog→aZ,Go.Value.slice→J,Go.Value.string→am,Go.Value.bool→aK,Go.Value.tuple→dd
namespace Go.Proofs.YtmnlcbeggagabaaGreatDoor
open ChangeShapes WideShapes RowKit Proofs.Tryz List
set_option maxHeartbeats 16000000
set_option linter.all false
set_option maxRecDepth 100000
variable{a:Z}{b c:M}{d:ab}{v:ae}
section
open Shelf
def KB:Go.Shelf.Ren:=⟨λ|283=>202|n=>n,λ|3=>3|9=>9|4=>4|n=>n,λ|n=>n⟩
def Tryz.lays283:Go.Proofs.Lays.n283 aZ KB:={mixed:=by kernel_rfl,f283:=func202.trans (bQ H<|by kernel_rfl),t3:=underlying3,a3:=isAgg3,z3:=sizeOf3,v3:=zeroValue3,t4:=underlying4,a4:=isAgg4,z4:=sizeOf4,v4:=zeroValue4,t9:=underlying9,a9:=isAgg9,z9:=sizeOf9,v9:=zeroValue9}
def KA:Go.Shelf.Ren:=⟨λ|284=>203|129=>90|317=>239|318=>240|n=>n,λ|53=>89|3=>3|212=>365|0=>0|4=>4|46=>23|5=>5|9=>9|n=>n,λ|17=>2|n=>n⟩
def Tryz.lays284:Go.Proofs.LaysM.n284 aZ KA:={mixed:=by kernel_rfl,f129:=func90.trans (bQ H<|by kernel_rfl),f284:=func203.trans (bQ H<|by kernel_rfl),f317:=func239.trans (bQ H<|by kernel_rfl),f318:=func240.trans (bQ H<|by kernel_rfl),t0:=underlying0,a0:=isAgg0,z0:=sizeOf0,v0:=zeroValue0,t3:=underlying3,a3:=isAgg3,z3:=sizeOf3,v3:=zeroValue3,t4:=underlying4,a4:=isAgg4,z4:=sizeOf4,v4:=zeroValue4,t5:=underlying5,a5:=isAgg5,z5:=sizeOf5,v5:=zeroValue5,t9:=underlying9,a9:=isAgg9,z9:=sizeOf9,v9:=zeroValue9,t46:=underlying23,a46:=isAgg23,z46:=sizeOf23,v46:=zeroValue23,t53:=underlying89,a53:=isAgg89,z53:=sizeOf89,v53:=zeroValue89,t212:=underlying365,a212:=isAgg365,z212:=sizeOf365,v212:=zeroValue365,g17:=by kernel_rfl,i0:=by kernel_rfl,i3:=by kernel_rfl,i4:=by kernel_rfl,i5:=by kernel_rfl,i9:=by kernel_rfl,i46:=by kernel_rfl,i53:=by kernel_rfl,i212:=by kernel_rfl,m17:=by kernel_rfl}
def Kz:Go.Shelf.Ren:=⟨λ|285=>204|n=>n,λ|37=>75|53=>89|3=>3|4=>4|51=>82|9=>9|5=>5|0=>0|n=>n,λ|n=>n⟩
def Tryz.lays285:Go.Proofs.Lays.n285 aZ Kz:={mixed:=by kernel_rfl,f285:=func204.trans (bQ H<|by kernel_rfl),t0:=underlying0,a0:=isAgg0,z0:=sizeOf0,v0:=zeroValue0,t3:=underlying3,a3:=isAgg3,z3:=sizeOf3,v3:=zeroValue3,t4:=underlying4,a4:=isAgg4,z4:=sizeOf4,v4:=zeroValue4,t5:=underlying5,a5:=isAgg5,z5:=sizeOf5,v5:=zeroValue5,t9:=underlying9,a9:=isAgg9,z9:=sizeOf9,v9:=zeroValue9,t37:=underlying75,a37:=isAgg75,z37:=sizeOf75,v37:=zeroValue75,t51:=underlying82,a51:=isAgg82,z51:=sizeOf82,v51:=zeroValue82,t53:=underlying89,a53:=isAgg89,z53:=sizeOf89,v53:=zeroValue89}
end
section
open Shelf Go.Sort
def Pow(w:Z):Prop:=Lib.TabIs aZ w "internal/strconv.uint64pow10" .u64 Lib.pow10Tab
def Ka:prog.globalNamed "internal/strconv.uint64pow10" =H 2:=by kernel_rfl
def Pow.di{w w':Z}(h:Pow w)(a:w'.heap[2]?=w.heap[2]?):Pow w':=by
 unfold Pow Lib.TabIs World.var? at*;rw[Ka]at*;grind
def Pow.lt(h:Pow a):2<z (G a):=by
 unfold Pow Lib.TabIs World.var? at h;rw[Ka]at h;grind
def Pow.ap{S:eT}{w w':Z}(h:Pow w)(c:I S w w')(a:¬S 2):Pow w':=h.di<|c.block _ h.lt a
def Eu(u:M):ae:=⟨(Lib.decDigits u).toArray⟩
def Fg(u:M)(c:u<18446744073709551616)(t:Pow a):cD aZ 152 #[aE u,aq 10] a λn e=>n=aJ (am<|Eu u)/\Below (z<|G a) a e:=by
 by_cases i:u<100;(.have b:∀W,cD aZ 202 #[aq u] W λn e=>n=aJ (am<|Eu u)/\e=W:=λW=>Any.internal_strconv_small Tryz.lays283 u i W;(have d:(u:U)<100:=by omega);(have f:IntKind.i64.wrap (u:U)=(u:U):=by rw[bS];omega);clear t;(go_in);(go_wp2_with(go_at_call 202;refine(b _).mono ?_;rintro n e⟨rfl,rfl⟩));go_ret;exact⟨rfl,Below.refl _ _⟩)
 .have m:1<=u:=by omega
  have s:Lib.nDigits u<=20:=by have:=Lib.numDigits_eq u m c;split at this<;>omega
  have g:prog.arrayLen 333=24:=by kernel_rfl
  have w:∀W,(Instr.sliceAt 333 (aA<|z<|G a) none (H<|aq (Lib.nDigits u:U)) none).run aZ W=.ok (aY (z<|G a) 0 (Lib.nDigits u) 24) W:=λW=>by
   rw[run_sliceAt_array_h W 333 (R (z<|G a) 0) (by kernel_rfl) .i64 (Lib.nDigits u:U) (by omega) (by rw[g];omega)];rw[g];have r:(sizeOf<|prog.elem 333).run aZ W=.ok 1 W:=by kernel_rfl
   rw[r];simp[Result.andThen,slicedAt,Lib.add_plain]
  have f:=Lib.holds_zero0 a 333 (Lib.nDigits u) (by omega);have j:cD aZ 204 #[aY (z<|G a) 0 (Lib.nDigits u) 24,aE u] (cG a<|ay Lib.zeros24 333) λn e=>
   n=aJ (dd #[])/\(∃(d:M)(b:Array UInt8),e=(putRow (λ(i:UInt8)=>qV (i.toNat:U)) (cG a<|ay Lib.zeros24 333) (z<|G a) 0 b).drewN d/\∃p,Lib.FmtInv (Lib.nDigits u) u 0 p b):=by
    have:=Any.internal_strconv_formatBase10 Tryz.lays285 (z<|G a) 0 24 u (Array.replicate (Lib.nDigits u) 0) (cG a<|ay Lib.zeros24 333) f (by rw[nt];exact Lib.lt_pow_nDigits u) c (by rw[nt];omega);rw[nt]at this;apply this.mono;grind
  have k:∀W,Pow W->cD aZ 203 #[aE u] W λn e=>n=aJ (aq<|Lib.nDigits u)/\e=W:=λW a=>Any.internal_strconv_numDigits Tryz.lays284 u m c W a;have l:=k (cG a<|ay Lib.zeros24 333)<|Lib.tabIs_alloc t _;have q:=Y f;have A:(100:U)<=(u:U):=by omega
  have d:=Y (show∀(o:M)(b:Array UInt8),(∃p,Lib.FmtInv (Lib.nDigits u) u 0 p b)->(convert 75 9<|aY (z<|G a) 0 (Lib.nDigits u) 24).run aZ ((putRow (λ(i:UInt8)=>qV (i.toNat:U)) (cG a<|ay Lib.zeros24 333) (z<|G a) 0 b).drewN o)=.ok (am<|Eu u) ((putRow (λ(i:UInt8)=>qV (i.toNat:U)) (cG a<|ay Lib.zeros24 333) (z<|G a) 0 b).drewN o)/\Below (z<|G a) a ((putRow (λ(i:UInt8)=>qV (i.toNat:U)) (cG a<|ay Lib.zeros24 333) (z<|G a) 0 b).drewN o)from by
   rintro o b⟨p,hF⟩;constructor
   .have h:=uP (P:=aZ) ((putRow (λ(i:UInt8)=>qV (i.toNat:U)) (cG a<|ay Lib.zeros24 333) (z<|G a) 0 b).drewN o) 75 9 5 (R (z<|G a) 0) 24 (Lib.decDigits u) (by kernel_rfl) (by kernel_rfl) (by kernel_rfl) (λx r=>by
     rw[Lib.row_is_numeral hF x r,Lib.add_plain,World.cell?_drewN];exact cell?_putRow (λ(i:UInt8)=>qV (i.toNat:U)) _ (z (G a)) 0 _ b q (by rw[hF.size,nt]) x (by rw[hF.size];rw[Lib.decDigits_length]at r;exact r))
    rw[Lib.decDigits_length]at h;exact h
   .obtain⟨x,r⟩:=Lib.fin_at a (ay Lib.zeros24 333) b o 0;rw[r];exact Lib.below_grow _ a (ai _) o x)
  clear f g k t;unfold Lib.zeros24 at*;go_in
  go_wp2_with(first
   |(go_at_call 203;refine l.mono ?_;rintro n B⟨rfl,rfl⟩)
   |(go_at_call 204;refine j.mono ?_;rintro n C⟨rfl,o,b,rfl,hF⟩;have v:=(d o b hF).1;have HB:=Y (d o b hF).2;clear hF))
  go_ret;exact⟨rfl,HB⟩
def sO(u:M)(b:u<18446744073709551616)(d:Pow a):cD aZ 95 #[aE u,aq 10] a λf e=>f=aJ (am<|Eu u)/\Below (z<|G a) a e:=by
 have h:=Fg u b d;clear d;go_in
 go_wp2_with(go_at_call 152;refine h.mono ?_;rintro f g⟨rfl,c⟩;have HB:=Y c;clear c)
 go_ret;exact⟨rfl,HB⟩
end
def NO(l:cS UInt8):M:=l.foldl (λa d=>a*10+(d.toNat-48)) 0
def yw(u:M):NO (Lib.decDigits u)=u:=by
 induction u using Nat.strongRecOn with
 |ind u a=>
  rw[Lib.decDigits];split
  .rename_i h;unfold NO;grind[UInt8.toNat_ofNat']
  .rename_i h;have:=a (u/10) (by omega);unfold NO at*;rw[fK,this];grind[UInt8.toNat_ofNat']
def WI:ae:=⟨#[116,97,98,108,101,45]⟩
def YH:ae:=⟨#[108,111,103,45]⟩
def fm:ae:=⟨#[115,116,97,116,101]⟩
def uz:ae:=⟨#[115,116,97,116,101,46,110,101,119]⟩
def gu(u:M):ae:=WI++Eu u
def fD(u:M):ae:=YH++Eu u
def LM(a b:ae):(a++b).data.toList=a.data.toList++b.data.toList:=by simp
theorem vH{b:ae}(h:v=b):v.data.toList=b.data.toList:=by rw[h]
theorem uv(u:M):(gu u).data.toList=[116,97,98,108,101,45]++Lib.decDigits u:=by unfold gu;rw[LM];rfl
theorem Bd(u:M):(fD u).data.toList=[108,111,103,45]++Lib.decDigits u:=by unfold fD;rw[LM];rfl
theorem uw(h:gu b=gu c):b=c:=by
 have:=vH h;rw[uv,uv,List.append_cancel_left_eq]at this;rw[<-yw b,this,yw]
theorem lC(u v:M):gu u≠fD v:=by
 grind[vH,uv,Bd]
theorem vf(u:M):gu u≠fm:=by
 intro h;have:=vH h;rw[uv]at this;simp[fm]at this
theorem Db(u:M):gu u≠uz:=by
 intro h;have:=vH h;rw[uv]at this;simp[uz]at this
theorem nQ(u:M):fD u≠fm:=by
 intro h;have:=vH h;rw[Bd]at this;simp[fm]at this
theorem Nj(u:M):fD u≠uz:=by
 intro h;have:=vH h;rw[Bd]at this;simp[uz]at this
def Hc:fm≠uz:=by
 intro h;have:=vH h;simp[fm,uz]at this
def Gz(u:M)(h:u<18446744073709551616):(Eu u).size<=20:=by
 have a:(Eu u).size=y (Lib.decDigits u):=by simp[Eu,ByteArray.size]
 rw[a,Lib.decDigits_length];exact Lib.nDigits_le20 u h
def AO(u:M)(b:u<18446744073709551616)(d:Pow a):cD aZ 148 #[aE u] a λf e=>f=aJ (am<|gu u)/\Below (z<|G a) a e:=by
 have h:=sO u b d;have g:=Gz u b;clear d;go_in
 go_wp2_with(go_at_call 95;refine h.mono ?_;rintro f i⟨rfl,c⟩;have HB:=Y c;clear c)
 go_ret;exact⟨rfl,HB⟩
def tE(u:M)(b:u<18446744073709551616)(d:Pow a):cD aZ 53 #[aE u] a λe w'=>e=aJ (am<|fD u)/\Below (z<|G a) a w':=by
 have h:=sO u b d;have f:=Gz u b;clear d;go_in
 go_wp2_with(go_at_call 95;refine h.mono ?_;rintro e g⟨rfl,c⟩;have HB:=Y c;clear c)
 go_ret;exact⟨rfl,HB⟩
section
open Shelf
def Ig:Go.Shelf.Ren:=⟨λ|14=>198|16=>236|17=>237|19=>249|20=>250|21=>251|22=>252|23=>253|24=>254|25=>128|27=>268|26=>267|28=>273|29=>275|30=>202|31=>203|32=>204|33=>205|35=>90|34=>239|36=>240|37=>241|38=>242|39=>255|40=>256|n=>n,λ|9=>9|3=>3|22=>89|24=>41|25=>325|4=>4|34=>370|5=>5|36=>23|37=>75|0=>0|39=>372|21=>21|44=>383|47=>317|50=>390|48=>388|2=>2|52=>333|55=>335|59=>365|60=>82|20=>20|61=>366|65=>384|66=>385|67=>210|n=>n,λ|0=>3|1=>4|2=>2|3=>5|4=>6|n=>n⟩
def Tr:Go.Proofs.LaysPu.n14 aZ Ig:={mixed:=by kernel_rfl,f14:=func198.trans (bQ H<|by kernel_rfl),f16:=func236.trans (bQ H<|by kernel_rfl),f17:=func237.trans (bQ H<|by kernel_rfl),f19:=func249.trans (bQ H<|by kernel_rfl),f20:=func250.trans (bQ H<|by kernel_rfl),f21:=func251.trans (bQ H<|by kernel_rfl),f22:=func252.trans (bQ H<|by kernel_rfl),f23:=func253.trans (bQ H<|by kernel_rfl),f24:=func254.trans (bQ H<|by kernel_rfl),f25:=func128.trans (bQ H<|by kernel_rfl),f26:=func267.trans (bQ H<|by kernel_rfl),f27:=func268.trans (bQ H<|by kernel_rfl),f28:=func273.trans (bQ H<|by kernel_rfl),f29:=func275.trans (bQ H<|by kernel_rfl),f30:=func202.trans (bQ H<|by kernel_rfl),f31:=func203.trans (bQ H<|by kernel_rfl),f32:=func204.trans (bQ H<|by kernel_rfl),f33:=func205.trans (bQ H<|by kernel_rfl),f34:=func239.trans (bQ H<|by kernel_rfl),f35:=func90.trans (bQ H<|by kernel_rfl),f36:=func240.trans (bQ H<|by kernel_rfl),f37:=func241.trans (bQ H<|by kernel_rfl),f38:=func242.trans (bQ H<|by kernel_rfl),f39:=func255.trans (bQ H<|by kernel_rfl),f40:=func256.trans (bQ H<|by kernel_rfl),t0:=underlying0,a0:=isAgg0,z0:=sizeOf0,v0:=zeroValue0,i0:=by kernel_rfl,t2:=underlying2,a2:=isAgg2,z2:=sizeOf2,v2:=zeroValue2,i2:=by kernel_rfl,t3:=underlying3,a3:=isAgg3,z3:=sizeOf3,v3:=zeroValue3,i3:=by kernel_rfl,t4:=underlying4,a4:=isAgg4,z4:=sizeOf4,v4:=zeroValue4,i4:=by kernel_rfl,t5:=underlying5,a5:=isAgg5,z5:=sizeOf5,v5:=zeroValue5,i5:=by kernel_rfl,t9:=underlying9,a9:=isAgg9,z9:=sizeOf9,v9:=zeroValue9,i9:=by kernel_rfl,t20:=underlying20,a20:=isAgg20,z20:=sizeOf20,v20:=zeroValue20,i20:=by kernel_rfl,t21:=underlying21,a21:=isAgg21,z21:=sizeOf21,v21:=zeroValue21,i21:=by kernel_rfl,t22:=underlying89,a22:=isAgg89,z22:=sizeOf89,v22:=zeroValue89,i22:=by kernel_rfl,t24:=underlying41,a24:=isAgg41,z24:=sizeOf41,v24:=zeroValue41,i24:=by kernel_rfl,t25:=underlying325,a25:=isAgg325,z25:=sizeOf325,v25:=zeroValue325,i25:=by kernel_rfl,t34:=underlying370,a34:=isAgg370,z34:=sizeOf370,v34:=zeroValue370,i34:=by kernel_rfl,c34:=by kernel_rfl,t36:=underlying23,a36:=isAgg23,z36:=sizeOf23,v36:=zeroValue23,i36:=by kernel_rfl,t37:=underlying75,a37:=isAgg75,z37:=sizeOf75,v37:=zeroValue75,i37:=by kernel_rfl,t39:=underlying372,a39:=isAgg372,z39:=sizeOf372,v39:=zeroValue372,i39:=by kernel_rfl,t44:=underlying383,a44:=isAgg383,z44:=sizeOf383,v44:=zeroValue383,i44:=by kernel_rfl,t47:=underlying317,a47:=isAgg317,z47:=sizeOf317,v47:=zeroValue317,i47:=by kernel_rfl,t48:=underlying388,a48:=isAgg388,z48:=sizeOf388,v48:=zeroValue388,i48:=by kernel_rfl,t50:=underlying390,a50:=isAgg390,z50:=sizeOf390,v50:=zeroValue390,i50:=by kernel_rfl,t52:=underlying333,a52:=isAgg333,z52:=sizeOf333,v52:=zeroValue333,i52:=by kernel_rfl,t55:=underlying335,a55:=isAgg335,z55:=sizeOf335,v55:=zeroValue335,i55:=by kernel_rfl,t59:=underlying365,a59:=isAgg365,z59:=sizeOf365,v59:=zeroValue365,i59:=by kernel_rfl,t60:=underlying82,a60:=isAgg82,z60:=sizeOf82,v60:=zeroValue82,i60:=by kernel_rfl,t61:=underlying366,a61:=isAgg366,z61:=sizeOf366,t65:=underlying384,a65:=isAgg384,z65:=sizeOf384,v65:=zeroValue384,i65:=by kernel_rfl,t66:=underlying385,a66:=isAgg385,z66:=sizeOf385,v66:=zeroValue385,i66:=by kernel_rfl,t67:=underlying210,a67:=isAgg210,z67:=sizeOf210,v67:=zeroValue210,i67:=by kernel_rfl,g0:=by kernel_rfl,m0:=by kernel_rfl,g1:=by kernel_rfl,m1:=by kernel_rfl,g2:=by kernel_rfl,m2:=by kernel_rfl,g3:=by kernel_rfl,m3:=by kernel_rfl,g4:=by kernel_rfl,m4:=by kernel_rfl}
def LC(w:Z)(e:TypeId)(s:ae):Below (z<|G w) w (Lib.bytesWorld w e s):=⟨rfl,rfl,rfl,by rw[Lib.bytesWorld_size];omega,λk a=>Lib.bytesWorld_at_old w e s k<|by omega⟩
def PW(w:Z):cD aZ 198 #[am ⟨#[49]⟩,aq 10,aq 64] w λe a=>e=aJ (dd #[aE 1,.nilIface])/\I az w a:=by
 have h:=Any.strconv_ParseUint_10_at64_ok Tr ⟨#[49]⟩ (by decide) 1 (by kernel_rfl) w;refine yD h ?_;rintro e a⟨rfl,rfl|rfl⟩;exact⟨rfl,I.refl _ _⟩;exact⟨rfl,I.aQ (S:=az)<|LC w _ _⟩
def PQ(w:Z):cD aZ 248 #[am ⟨#[108,111,103,45,49]⟩,am ⟨#[116,97,98,108,101,45]⟩] w λe a=>e=aJ (aK bj)/\a=w:=by
 go_in
 go_wp2;go_ret;exact⟨rfl,rfl⟩
def MS(w:Z):cD aZ 248 #[am ⟨#[108,111,103,45,49]⟩,am ⟨#[108,111,103,45]⟩] w λe a=>e=aJ (aK ci)/\a=w:=by
 go_in
 go_wp2;go_ret;refine⟨?_,rfl⟩;kernel_rfl
def VG(w:Z):cD aZ 197 #[am ⟨#[108,111,103,45,49]⟩,am ⟨#[116,97,98,108,101,45]⟩] w λe b=>e=aJ (dd #[am ⟨#[108,111,103,45,49]⟩,aK bj])/\b=w:=by
 have a:=PQ w;have d:cD aZ 235 #[am ⟨#[108,111,103,45,49]⟩,am ⟨#[116,97,98,108,101,45]⟩] w λe b=>e=aJ (dd #[am ⟨#[108,111,103,45,49]⟩,aK bj])/\b=w:=by(go_in);(go_wp2_with(go_at_call 248;refine a.mono ?_;rintro e c⟨rfl,f⟩;subst c));(go_ret2);exact⟨rfl,rfl⟩
 go_in
 go_wp2_with(go_at_call 235;refine d.mono ?_;rintro e c⟨rfl,f⟩;subst c)
 go_ret2
 exact⟨rfl,rfl⟩
def Uq(w:Z):cD aZ 197 #[am ⟨#[108,111,103,45,49]⟩,am ⟨#[108,111,103,45]⟩] w λe b=>e=aJ (dd #[am ⟨#[49]⟩,aK ci])/\b=w:=by
 have a:=MS w;have d:cD aZ 235 #[am ⟨#[108,111,103,45,49]⟩,am ⟨#[108,111,103,45]⟩] w λe b=>e=aJ (dd #[am ⟨#[49]⟩,aK ci])/\b=w:=by(go_in);(go_wp2_with(go_at_call 248;refine a.mono ?_;rintro e c⟨rfl,f⟩;subst c));(go_ret2);refine⟨?_,rfl⟩;kernel_rfl
 go_in
 go_wp2_with(go_at_call 235;refine d.mono ?_;rintro e c⟨rfl,f⟩;subst c)
 go_ret2
 exact⟨rfl,rfl⟩
def OM:Eu 1=⟨#[49]⟩:=by
 unfold Eu;rw[Lib.decDigits];simp
def MZ(m:Pow a):cD aZ 141 #[am ⟨#[108,111,103,45,49]⟩] a λj p=>j=aJ (dd #[aE 1,aK ci])/\I az a p:=by
 have e:=PW a;have b:=λW(h:I az a W)=>sO 1 (by omega)<|Pow.ap m h id;rw[OM]at b;clear m;have l:=VG a;have n:=Uq a;go_in
 go_wp2_with fail
 apply l.mono;rintro j f⟨rfl,o⟩;subst f;go_wp2_with fail
 apply n.mono;rintro j f⟨rfl,o⟩;subst f;go_wp2_with fail
 apply e.mono;rintro j f⟨rfl,c⟩;have k:=b f c;have g:=Y c;clear c b e l n;go_wp2_with fail
 apply k.mono;rintro j q⟨rfl,d⟩;have i:=Y<|g.bW<|I.aQ (S:=az) d;clear d k;go_wp2;go_ret2
 exact⟨rfl,i⟩
end
section
open Shelf
def If:Go.Shelf.Ren:=⟨λ|25=>128|n=>n,λ|9=>9|3=>3|4=>4|37=>75|0=>0|47=>317|5=>5|n=>n,λ|n=>n⟩
def Tq:Go.Proofs.LaysPu.n25 aZ If:={mixed:=by kernel_rfl,f25:=func128.trans (bQ H<|by kernel_rfl),t0:=underlying0,a0:=isAgg0,z0:=sizeOf0,v0:=zeroValue0,i0:=by kernel_rfl,t3:=underlying3,a3:=isAgg3,z3:=sizeOf3,v3:=zeroValue3,i3:=by kernel_rfl,t4:=underlying4,a4:=isAgg4,z4:=sizeOf4,v4:=zeroValue4,i4:=by kernel_rfl,t5:=underlying5,a5:=isAgg5,z5:=sizeOf5,v5:=zeroValue5,i5:=by kernel_rfl,t9:=underlying9,a9:=isAgg9,z9:=sizeOf9,v9:=zeroValue9,i9:=by kernel_rfl,t37:=underlying75,a37:=isAgg75,z37:=sizeOf75,v37:=zeroValue75,i37:=by kernel_rfl,t47:=underlying317,a47:=isAgg317,z47:=sizeOf317,v47:=zeroValue317,i47:=by kernel_rfl}
def uM(s:ae)(w:Z)(d:s.size<=281474976710656):cD aZ 76 #[am s] w λe a=>e=aJ (am s)/\Below (z<|G w) w a:=by
 have h:=AnyPu.stringslite_Clone Tq s w d;have c:cD aZ 128 #[am s] w λe a=>e=aJ (am s)/\Below (z<|G w) w a:=h;clear h;go_in
 go_wp2_with fail
 apply c.mono;rintro e f⟨rfl,b⟩;have HB:=Y b;clear b;go_wp2;go_ret;exact⟨rfl,HB⟩
end
section
open Shelf
def KC:Go.Shelf.Ren:=⟨λ|190=>22|125=>50|258=>49|128=>89|129=>90|302=>80|303=>81|304=>82|305=>83|306=>84|307=>85|308=>86|309=>87|310=>88|333=>135|329=>136|330=>137|334=>138|335=>139|336=>140|344=>196|n=>n,λ|31=>29|9=>9|3=>3|46=>23|0=>0|51=>82|53=>89|4=>4|183=>176|182=>175|131=>181|5=>5|218=>247|222=>251|228=>321|229=>322|n=>n,λ|n=>n⟩
def Tryz.lays190:Go.Proofs.Lays.n190 aZ KC:={mixed:=by kernel_rfl,f125:=func50.trans (bQ H<|by kernel_rfl),f128:=func89.trans (bQ H<|by kernel_rfl),f129:=func90.trans (bQ H<|by kernel_rfl),f190:=func22.trans (bQ H<|by kernel_rfl),f258:=func49.trans (bQ H<|by kernel_rfl),f302:=func80.trans (bQ H<|by kernel_rfl),f303:=func81.trans (bQ H<|by kernel_rfl),f304:=func82.trans (bQ H<|by kernel_rfl),f305:=func83.trans (bQ H<|by kernel_rfl),f306:=func84.trans (bQ H<|by kernel_rfl),f307:=func85.trans (bQ H<|by kernel_rfl),f308:=func86.trans (bQ H<|by kernel_rfl),f309:=func87.trans (bQ H<|by kernel_rfl),f310:=func88.trans (bQ H<|by kernel_rfl),f329:=func136.trans (bQ H<|by kernel_rfl),f330:=func137.trans (bQ H<|by kernel_rfl),f333:=func135.trans (bQ H<|by kernel_rfl),f334:=func138.trans (bQ H<|by kernel_rfl),f335:=func139.trans (bQ H<|by kernel_rfl),f336:=func140.trans (bQ H<|by kernel_rfl),f344:=func196.trans (bQ H<|by kernel_rfl),t0:=underlying0,a0:=isAgg0,z0:=sizeOf0,v0:=zeroValue0,t3:=underlying3,a3:=isAgg3,z3:=sizeOf3,v3:=zeroValue3,t4:=underlying4,a4:=isAgg4,z4:=sizeOf4,v4:=zeroValue4,t5:=underlying5,a5:=isAgg5,z5:=sizeOf5,v5:=zeroValue5,t9:=underlying9,a9:=isAgg9,z9:=sizeOf9,v9:=zeroValue9,t31:=underlying29,a31:=isAgg29,z31:=sizeOf29,v31:=zeroValue29,t46:=underlying23,a46:=isAgg23,z46:=sizeOf23,v46:=zeroValue23,t51:=underlying82,a51:=isAgg82,z51:=sizeOf82,v51:=zeroValue82,t53:=underlying89,a53:=isAgg89,z53:=sizeOf89,v53:=zeroValue89,t131:=underlying181,a131:=isAgg181,z131:=sizeOf181,v131:=zeroValue181,t182:=underlying175,a182:=isAgg175,z182:=sizeOf175,v182:=zeroValue175,t183:=underlying176,a183:=isAgg176,z183:=sizeOf176,v183:=zeroValue176,t218:=underlying247,a218:=isAgg247,z218:=sizeOf247,v218:=zeroValue247,t222:=underlying251,a222:=isAgg251,z222:=sizeOf251,v222:=zeroValue251,t228:=underlying321,a228:=isAgg321,z228:=sizeOf321,v228:=zeroValue321,t229:=underlying322,a229:=isAgg322,z229:=sizeOf322,v229:=zeroValue322}
def strs(a:cS ae):iF:=a.map Value.string
def Ie(w:Z):cD aZ 90 #[aE 0] w λe a=>e=aJ (aq 0)/\a=w:=by
 go_in
 go_wp2;go_ret;exact⟨by simp;kernel_rfl,rfl⟩
def Nk(w:Z):cD aZ 50 #[aE 0] w λe a=>e=aJ (aq 0)/\a=w:=by
 have h:=Ie w;go_in
 go_wp2_with(go_at_call 90;refine h.mono ?_;rintro e a⟨rfl,rfl⟩)
 go_wp2;go_ret;exact⟨rfl,rfl⟩
def Im(w:Z):cD aZ 80 #[aw,aq 0,aq 0] w λe a=>e=aJ (dd #[])/\a=w:=by
 go_in
 go_wp2;refine gF 1 ?_;rw[fT];go_wp2;go_end0;exact⟨rfl,rfl⟩
def SJ(w:Z):cD aZ 49 #[aw,aq 0,aq 0,aq 0] w λe a=>e=aJ (dd #[])/\a=w:=by
 have h:=Im w;go_in
 go_wp2;refine gF 1 ?_;rw[fT];go_wp2_with fail
 apply h.mono;rintro e a⟨rfl,rfl⟩;go_wp2;refine cg (ja rfl _ _ _) rfl ?_;exact⟨rfl,rfl⟩
def Pu(w:Z):cD aZ 22 #[aw] w λe a=>e=aJ (dd #[])/\a=w:=by
 have h:=SJ w;have b:=Nk w;go_in
 go_wp2_with(first|(go_at_call 50;refine b.mono ?_;rintro e a⟨rfl,rfl⟩)|(go_at_call 49;refine h.mono ?_;rintro e a⟨rfl,rfl⟩))
 go_wp2;go_end0;exact⟨rfl,rfl⟩
def Sm(c:cS ae)(Q:a.ownsRow b 9 1 d (y c) (strs c))(hn:y c<=1000000000000):cD aZ 22 #[d] a λD C=>D=aJ (dd #[])/\∃P:cS ae,P.Perm c/\C.ownsRow b 9 1 d (y P) (strs P)/\I (λB=>cz d=H B) a C:=by
 rcases Q.2 with⟨rfl,h0⟩|⟨u,t,h,rfl,E,v,O,F,K,q⟩;apply(Pu a).mono;rintro D C⟨rfl,rfl⟩;exact⟨rfl,c,np _,Q,I.refl _ _⟩;obtain⟨k,p⟩:∃k,c.map (λT=>T.data.toList)=k:=⟨_,rfl⟩;(have o:y k=y c:=by rw[<-p,df]);(have e:∀j(l:j<y c),h[j]?=H (am c[j]):=by intro j l;(have s:(h.toList.take<|y c*1)[j]?=(strs c)[j]?:=by rw[q]);rw[qT,ol l]at s;rw[<-vS,s];simp[strs,l]);(have V:Go.Sort.Holds encStr a u 0 k.toArray:=by intro j l;(have w:j<y c:=by simpa[o]using l);(have L:j<y k:=by omega);refine⟨?_,by simp[World.frozen?,v]⟩;rw[dr,bV v,e j w];(have:k.toArray[j]! =c[j].data.toList:=by rw[getElem!_pos _ j<|by simpa using L];simp[<-p]);rw[this]);have W:=Any.slices_Sort_string Tryz.lays190 u 0 t k a V (ar v) (by omega);rw[o]at W;apply W.mono;rintro D C⟨rfl,X,A,rfl⟩;obtain⟨g,x⟩:∃g,k.mergeSort (λc a=>decide<|c<=a)=g:=⟨_,rfl⟩;(have f:g.Perm k:=by rw[<-x];exact List.mergeSort_perm _ _);rw[x];(have r:y g=y c:=by rw[f.length_eq,o]);(have m:(Go.Sort.grow (Go.Sort.putRow encStr (Go.Sort.ahead a X) u 0 g.toArray) A).heap[u]?=H (ay (Go.Sort.putCells encStr 0 g.toArray h) 9 (0,0)):=by show((a.heap.modify u _)++A)[u]?=_;rw[sr (by simp;exact ar v),qe,dV rfl,v];rfl);(have i:∀B,B<z (G a)->B≠u->(Go.Sort.grow (Go.Sort.putRow encStr (Go.Sort.ahead a X) u 0 g.toArray) A).heap[B]?=a.heap[B]?:=by intro B N n;show((a.heap.modify u _)++A)[B]?=_;rw[sr (by simp;exact N),qe,eI<|λD=>n D.symm]);refine⟨rfl,g.map<|λS=>⟨S.toArray⟩,?_,⟨by simp[strs],.inr ⟨u,t,_,by rw[df,r],E,m,by rw[df,r];exact O,F,by simpa[Go.Sort.putCells]using K,?_⟩⟩,rfl,rfl,rfl,?_,?_⟩;have s:=f.map (λS:cS UInt8=>(⟨S.toArray⟩:ae));rw[<-p,iP]at s;(have w:c.map ((λS:cS UInt8=>(⟨S.toArray⟩:ae))∘λT=>T.data.toList)=c:=by(conv=>rhs;rw[<-wh c]);apply nW;intro T _;simp);rw[w]at s;exact s;apply tA;intro j;rw[df,r,qT];by_cases l:j<y c;rw[ol l];(have w:j<y g:=by omega);(have:(Go.Sort.putCells encStr 0 g.toArray h).toList[j]?=H (am ⟨g[j].toArray⟩):=by rw[vS];unfold Go.Sort.putCells;rw[Array.getElem?_mapIdx,e j l];simp[w,encStr]);rw[this];simp[strs,w];rw[List.getElem?_take_eq_none (by omega),qc (by simp[strs];omega)];show z (G a)<=((a.heap.modify u _)++A).size;simp;intro B N n;exact i B N<|λD=>n (by rw[D];rfl)
end
def Eg:(prog.info? 9).map (λi=>(i.zero,i.size,i.bytes))=H (H<|am ⟨#[]⟩,1,16):=by kernel_rfl
def FD(a:cS ae)(n:ae):strs (a++[n])=strs a++[am n]:=by simp[strs]
def wR{db:M}{K:DK}{w:Z}(h:cH w db K)(hn:y K.files<=100000000):cD aZ 7 #[aA db] w λau w'=>∃v' a,au=aJ v'/\List.Perm a (K.files.map cX.name)/\w'.ownsRow (z<|G w) 9 1 v' (y a) (strs a)/\I az w w':=by
 obtain⟨i0,V,ac,ad,al⟩:=cU Eg;have aF:=cellAt h.iy 0 rfl;have g:=Y h.now;clear h;go_in
 go_wp2_with(first
  |(at_range;refine qJ _ rfl _ 69 rfl 9 74 underlying69 K.nb _ rfl g ?_;intro w0 i A bb;have O:=Y i;have u:=Y A;clear i A))
 go_frame
 go_loopw [3] (λo wr=>∃(ao:cS cX)(a:cS ae),(a++ao.map cX.name).Perm (K.files.map cX.name)/\wr.ownsRow (z<|G w) 9 1 o (y a) (strs a)/\cz o≠H (z<|G w)/\pj wr K.nb (z<|G w) (K.files.map cX.nm) (ao.map cX.nm)/\I az w wr) (λ_ wr=>wr.rangeLeft K.nb<|z<|G w)
 case atStart=>exact⟨K.files,[],np _,cO _ _ _ _,(by simp[cz]),O,I.dW u<|by simp⟩
 case round=>
  obtain⟨ao,a,hp,W,E,C,ht⟩:=hrel;have ba:y a<=100000000:=by have:=hp.length_eq;grind
  obtain⟨q,p,X⟩:=aC W;obtain⟨t,HT,HP,Q,l⟩:=jk C ht hp W E;clear C ht hp W E;subst X;go_wp2_with(first
   |(at_next;refine pF _ rfl _ rfl K.nb (z (G w)) _ _ rfl t ?_ ?_))
  .intro o;obtain rfl:ao=[]:=by simpa using o
   have e:=Sm a Q (by omega);go_wp2_with fail
   apply e.mono;rintro au s⟨rfl,r,c,b,f⟩;obtain⟨n,m,j⟩:=dz b f c;clear b f c e;go_wp2;go_ret;refine⟨_,r,rfl,?_,n,HT.trans m<|λk d=>.inr (Q.lt k d).1⟩;have:=af HP;simp only[gQ,dO]at this;exact j.trans this
  .intro bc pk pv an r N c B aa aU;obtain⟨bg,ax,bh,rfl,rfl,L,rfl⟩:=DM N;simp only[cX.nm,kT,iZ]at L;obtain⟨rfl,rfl⟩:=L;have o:I (λk=>k=z (G w)) wr r:=fj B;have F:=o.own Q (λk d T=>af l<|by rw[d,T]);have D:=c.lt;obtain⟨P,v,m⟩:=dz c (HT.trans o<|λx a=>.inr<|by omega) F;have aD:K.nb≠z (G w):=λau=>c.ne au.symm;have aV:K.nb<z (G w):=g.lt;clear N c B aa o F;go_wp2_with(first
    |(at_builtin;go_loud(refine ct _ rfl (.tmp 14) (.tmp 16) 29 rfl (z (G w)) 9 i0 (.string ⟨#[]⟩) 1 16 underlying29 V ac ad al rfl (by decide) (.slice q (y a) p) (y a) (strs a) rfl (aX m (.cells #[.string ax.name] 9)) (R (z (G r)) 0) 1 1 [.string ax.name] rfl rfl (qD _ _ _) (by simp[Value.oneCell']) (by omega) (by omega) (by have:=v.size;simp;omega) ?_;intro v2 w3 b j;obtain⟨bf,bd,rfl⟩:=aC b;have n:=Y b;have x:=Y j;clear b j)))
   have s:=Y (show pj w3 K.nb (z<|G w) (K.files.map cX.nm) (bg.map cX.nm++bh.map cX.nm)from by
    have f:=af x;have e:I (λk=>cz (J q (y a) p)=H k) r w3:=((I.refl (λk=>cz (J q (y a) p)=H k) r).alloc _).trans (I.dW (S:=λk=>cz (J q (y a) p)=H k) f.grown (λk d=>.inl d)) (λk d=>.inl d);refine P.kept (e.block _ (by omega) (λT=>?_)) (e.block _ D (λT=>af l T));have:=(m.lt _ T).1;omega)
   go_roundw;case rel=>
    have f:=af x;have e:I (λk=>cz (J q (y a) p)=H k) r w3:=((I.refl (λk=>cz (J q (y a) p)=H k) r).alloc _).trans (I.dW (S:=λk=>cz (J q (y a) p)=H k) f.grown<|λk d=>.inl d)<|λk d=>.inl d;refine⟨bg++bh,a++[ax.name],?_,?_,?_,?_,?_⟩
    .refine List.Perm.trans ?_ HP;rw[bz];refine qd _ ?_;grind[singleton_append,Perm.symm,perm_middle]
    .rw[FD,ag];exact n
    .rcases f.uj with av|⟨bi,av,hg⟩
     .rw[av];exact l
     .rw[av];intro T;cases T;simp at hg;omega
    .rw[aR];exact s
    .exact v.trans e<|λk d=>.inr (m.lt k d).1
   case measure=>rw[(af s).left_eq,(af t).left_eq];simp
