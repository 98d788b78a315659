import Derived.BigCall
import Derived.BigGuard
import Derived.CellFam
import Derived.Ground.MpProg
import Derived.Ground.NamesProg
import Derived.Lib.AppendIntMem
import Derived.Lib.Hide
import Derived.Lib.ItoaLen
import Derived.Lib.ItoaMem
import Derived.Lib.ItoaWalk
import Derived.Lib.Walk
import Derived.Shelf.Pu.Clone
import Derived.Shelf.Pu.ParseUintPublic10
import Derived.Shelf.Sort.Plain
import Derived.Shelf.Strconv.Itoa1
import Derived.Shelf.Strconv.Itoa2
import Derived.Test.YthaiaannkhpppaaGreatDoorC1
open _root_ renaming List.length→y,Option.some→H,Array.size→z,Go.World.heap→G,Go.Value.ownBlock→cK,Go.World.alloc→cN,Bool.false→aX,Bool.true→ci,Nat→M,Int→X,List→cJ,Go.Calls→cY,Go.Proofs.Tryz.prog→aZ,Go.Value.string→am,Go.Value.bool→aN,Go.Value.tuple→dq
namespace Go.Proofs.YthaiaannkhpppaaGreatDoor
open ChangeShapes WideShapes RowKit Proofs.Tryz List
set_option maxHeartbeats 16000000
set_option linter.all false
set_option maxRecDepth 100000
variable{a:Y}{b c:M}{d:ab}{k:X}{t:ae}
section
open Shelf
def LR:Go.Shelf.Ren:=⟨λ|283=>206|n=>n,λ|3=>3|9=>9|4=>4|n=>n,λ|n=>n⟩
def Tryz.lays283:Go.Proofs.Lays.n283 aZ LR:={mixed:=by kernel_rfl,f283:=func206.trans (bS H<|by kernel_rfl),t3:=underlying3,a3:=isAgg3,z3:=sizeOf3,v3:=zeroValue3,t4:=underlying4,a4:=isAgg4,z4:=sizeOf4,v4:=zeroValue4,t9:=underlying9,a9:=isAgg9,z9:=sizeOf9,v9:=zeroValue9}
def LQ:Go.Shelf.Ren:=⟨λ|284=>207|129=>205|317=>248|318=>249|n=>n,λ|53=>88|3=>3|212=>377|0=>0|4=>4|46=>27|5=>5|9=>9|n=>n,λ|17=>2|n=>n⟩
def Tryz.lays284:Go.Proofs.LaysM.n284 aZ LQ:={mixed:=by kernel_rfl,f129:=func205.trans (bS H<|by kernel_rfl),f284:=func207.trans (bS H<|by kernel_rfl),f317:=func248.trans (bS H<|by kernel_rfl),f318:=func249.trans (bS H<|by kernel_rfl),t0:=underlying0,a0:=isAgg0,z0:=sizeOf0,v0:=zeroValue0,t3:=underlying3,a3:=isAgg3,z3:=sizeOf3,v3:=zeroValue3,t4:=underlying4,a4:=isAgg4,z4:=sizeOf4,v4:=zeroValue4,t5:=underlying5,a5:=isAgg5,z5:=sizeOf5,v5:=zeroValue5,t9:=underlying9,a9:=isAgg9,z9:=sizeOf9,v9:=zeroValue9,t46:=underlying27,a46:=isAgg27,z46:=sizeOf27,v46:=zeroValue27,t53:=underlying88,a53:=isAgg88,z53:=sizeOf88,v53:=zeroValue88,t212:=underlying377,a212:=isAgg377,z212:=sizeOf377,v212:=zeroValue377,g17:=by kernel_rfl,i0:=by kernel_rfl,i3:=by kernel_rfl,i4:=by kernel_rfl,i5:=by kernel_rfl,i9:=by kernel_rfl,i46:=by kernel_rfl,i53:=by kernel_rfl,i212:=by kernel_rfl,m17:=by kernel_rfl}
def LP:Go.Shelf.Ren:=⟨λ|285=>208|n=>n,λ|37=>103|53=>88|3=>3|4=>4|51=>81|9=>9|5=>5|0=>0|n=>n,λ|n=>n⟩
def Tryz.lays285:Go.Proofs.Lays.n285 aZ LP:={mixed:=by kernel_rfl,f285:=func208.trans (bS H<|by kernel_rfl),t0:=underlying0,a0:=isAgg0,z0:=sizeOf0,v0:=zeroValue0,t3:=underlying3,a3:=isAgg3,z3:=sizeOf3,v3:=zeroValue3,t4:=underlying4,a4:=isAgg4,z4:=sizeOf4,v4:=zeroValue4,t5:=underlying5,a5:=isAgg5,z5:=sizeOf5,v5:=zeroValue5,t9:=underlying9,a9:=isAgg9,z9:=sizeOf9,v9:=zeroValue9,t37:=underlying103,a37:=isAgg103,z37:=sizeOf103,v37:=zeroValue103,t51:=underlying81,a51:=isAgg81,z51:=sizeOf81,v51:=zeroValue81,t53:=underlying88,a53:=isAgg88,z53:=sizeOf88,v53:=zeroValue88}
end
section
open Shelf Go.Sort
def Pow(w:Y):Prop:=Lib.TabIs aZ w "internal/strconv.uint64pow10" .u64 Lib.pow10Tab
def Lo:prog.globalNamed "internal/strconv.uint64pow10" =H 2:=by kernel_rfl
def Pow.dw{w w':Y}(h:Pow w)(a:w'.heap[2]?=w.heap[2]?):Pow w':=by
 unfold Pow Lib.TabIs World.var? at*;rw[Lo]at*;grind
def Pow.lt(h:Pow a):2<z (G a):=by
 unfold Pow Lib.TabIs World.var? at h;rw[Lo]at h;grind
def Pow.aj{S:eV}{w w':Y}(h:Pow w)(c:Z S w w')(a:¬S 2):Pow w':=h.dw<|c.block _ h.lt a
def yy(u:M):ae:=⟨(Lib.decDigits u).toArray⟩
def Gk(u:M)(c:u<18446744073709551616)(t:Pow a):cY aZ 145 #[aE u,ar 10] a λn e=>n=aM (am<|yy u)/\Below (z<|G a) a e:=by
 by_cases i:u<100;(.have b:∀W,cY aZ 206 #[ar u] W λn e=>n=aM (am<|yy u)/\e=W:=λW=>Any.internal_strconv_small Tryz.lays283 u i W;(have d:(u:X)<100:=by omega);(have f:IntKind.i64.wrap (u:X)=(u:X):=by rw[bN];omega);clear t;(go_in);(go_wp2_with(go_at_call 206;refine(b _).mono ?_;rintro n e⟨rfl,rfl⟩));go_ret;exact⟨rfl,Below.refl _ _⟩)
 .have m:1<=u:=by omega
  have s:Lib.nDigits u<=20:=by have:=Lib.numDigits_eq u m c;split at this<;>omega
  have g:prog.arrayLen 340=24:=by kernel_rfl
  have w:∀W,(Instr.sliceAt 340 (aA<|z<|G a) none (H<|ar (Lib.nDigits u:X)) none).run aZ W=.ok (bD (z<|G a) 0 (Lib.nDigits u) 24) W:=λW=>by
   rw[run_sliceAt_array_h W 340 (R (z<|G a) 0) (by kernel_rfl) .i64 (Lib.nDigits u:X) (by omega) (by rw[g];omega)];rw[g];have r:(sizeOf<|prog.elem 340).run aZ W=.ok 1 W:=by kernel_rfl
   rw[r];simp[Result.andThen,slicedAt,Lib.add_plain]
  have f:=Lib.holds_zero0 a 340 (Lib.nDigits u) (by omega);have j:cY aZ 208 #[bD (z<|G a) 0 (Lib.nDigits u) 24,aE u] (cN a<|aw Lib.zeros24 340) λn e=>
   n=aM (dq #[])/\(∃(d:M)(b:Array UInt8),e=(putRow (λ(i:UInt8)=>rD (i.toNat:X)) (cN a<|aw Lib.zeros24 340) (z<|G a) 0 b).drewN d/\∃p,Lib.FmtInv (Lib.nDigits u) u 0 p b):=by
    have:=Any.internal_strconv_formatBase10 Tryz.lays285 (z<|G a) 0 24 u (Array.replicate (Lib.nDigits u) 0) (cN a<|aw Lib.zeros24 340) f (by rw[nH];exact Lib.lt_pow_nDigits u) c (by rw[nH];omega);rw[nH]at this;apply this.mono;grind
  have k:∀W,Pow W->cY aZ 207 #[aE u] W λn e=>n=aM (ar<|Lib.nDigits u)/\e=W:=λW a=>Any.internal_strconv_numDigits Tryz.lays284 u m c W a;have l:=k (cN a<|aw Lib.zeros24 340)<|Lib.tabIs_alloc t _;have q:=U f;have A:(100:X)<=(u:X):=by omega
  have d:=U (show∀(o:M)(b:Array UInt8),(∃p,Lib.FmtInv (Lib.nDigits u) u 0 p b)->(convert 103 9<|bD (z<|G a) 0 (Lib.nDigits u) 24).run aZ ((putRow (λ(i:UInt8)=>rD (i.toNat:X)) (cN a<|aw Lib.zeros24 340) (z<|G a) 0 b).drewN o)=.ok (am<|yy u) ((putRow (λ(i:UInt8)=>rD (i.toNat:X)) (cN a<|aw Lib.zeros24 340) (z<|G a) 0 b).drewN o)/\Below (z<|G a) a ((putRow (λ(i:UInt8)=>rD (i.toNat:X)) (cN a<|aw Lib.zeros24 340) (z<|G a) 0 b).drewN o)from by
   rintro o b⟨p,hF⟩;constructor
   .have h:=vR (P:=aZ) ((putRow (λ(i:UInt8)=>rD (i.toNat:X)) (cN a<|aw Lib.zeros24 340) (z<|G a) 0 b).drewN o) 103 9 5 (R (z<|G a) 0) 24 (Lib.decDigits u) (by kernel_rfl) (by kernel_rfl) (by kernel_rfl) (λx r=>by
     rw[Lib.row_is_numeral hF x r,Lib.add_plain,World.cell?_drewN];exact cell?_putRow (λ(i:UInt8)=>rD (i.toNat:X)) _ (z (G a)) 0 _ b q (by rw[hF.size,nH]) x (by rw[hF.size];rw[Lib.decDigits_length]at r;exact r))
    rw[Lib.decDigits_length]at h;exact h
   .obtain⟨x,r⟩:=Lib.fin_at a (aw Lib.zeros24 340) b o 0;rw[r];exact Lib.below_grow _ a (ah _) o x)
  clear f g k t;unfold Lib.zeros24 at*;go_in
  go_wp2_with(first
   |(go_at_call 207;refine l.mono ?_;rintro n B⟨rfl,rfl⟩)
   |(go_at_call 208;refine j.mono ?_;rintro n C⟨rfl,o,b,rfl,hF⟩;have v:=(d o b hF).1;have HB:=U (d o b hF).2;clear hF))
  go_ret;exact⟨rfl,HB⟩
def qm(u:M)(b:u<18446744073709551616)(d:Pow a):cY aZ 88 #[aE u,ar 10] a λf e=>f=aM (am<|yy u)/\Below (z<|G a) a e:=by
 have h:=Gk u b d;clear d;go_in
 go_wp2_with(go_at_call 145;refine h.mono ?_;rintro f g⟨rfl,c⟩;have HB:=U c;clear c)
 go_ret;exact⟨rfl,HB⟩
end
def Ph(l:cJ UInt8):M:=l.foldl (λa d=>a*10+(d.toNat-48)) 0
def rk(u:M):Ph (Lib.decDigits u)=u:=by
 induction u using Nat.strongRecOn with
 |ind u a=>
  rw[Lib.decDigits];split
  .rename_i h;unfold Ph;grind[UInt8.toNat_ofNat']
  .rename_i h;have:=a (u/10) (by omega);unfold Ph at*;rw[gK,this];grind[UInt8.toNat_ofNat']
def tG:ae:=⟨#[116,97,98,108,101,45]⟩
def Rs:ae:=⟨#[108,111,103,45]⟩
def eh:ae:=⟨#[115,116,97,116,101]⟩
def iR:ae:=⟨#[115,116,97,116,101,46,110,101,119]⟩
def fQ(u:M):ae:=tG++yy u
def fa(u:M):ae:=Rs++yy u
def Nc(a b:ae):(a++b).data.toList=a.data.toList++b.data.toList:=by simp
theorem sO{b:ae}(h:t=b):t.data.toList=b.data.toList:=by rw[h]
theorem vE(u:M):(fQ u).data.toList=[116,97,98,108,101,45]++Lib.decDigits u:=by unfold fQ;rw[Nc];rfl
theorem sX(u:M):(fa u).data.toList=[108,111,103,45]++Lib.decDigits u:=by unfold fa;rw[Nc];rfl
theorem pX(h:fQ b=fQ c):b=c:=by
 have:=sO h;rw[vE,vE,tv]at this;rw[<-rk b,this,rk]
theorem iA(u v:M):fQ u≠fa v:=by
 grind[sO,vE,sX]
theorem oo(u:M):fQ u≠eh:=by
 intro h;have:=sO h;rw[vE]at this;simp[eh]at this
theorem qJ(u:M):fQ u≠iR:=by
 intro h;have:=sO h;rw[vE]at this;simp[iR]at this
theorem kL(u:M):fa u≠eh:=by
 intro h;have:=sO h;rw[sX]at this;simp[eh]at this
theorem wz(u:M):fa u≠iR:=by
 intro h;have:=sO h;rw[sX]at this;simp[iR]at this
def we:eh≠iR:=by
 intro h;have:=sO h;simp[eh,iR]at this
def qT(u:M)(h:u<18446744073709551616):(yy u).size<=20:=by
 have a:(yy u).size=y (Lib.decDigits u):=by simp[yy,ByteArray.size]
 rw[a,Lib.decDigits_length];exact Lib.nDigits_le20 u h
def BD(u:M)(b:u<18446744073709551616)(d:Pow a):cY aZ 139 #[aE u] a λf e=>f=aM (am<|fQ u)/\Below (z<|G a) a e:=by
 have h:=qm u b d;have g:=qT u b;clear d;go_in
 go_wp2_with(go_at_call 88;refine h.mono ?_;rintro f i⟨rfl,c⟩;have HB:=U c;clear c)
 go_ret;exact⟨rfl,HB⟩
def yQ(u:M)(b:u<18446744073709551616)(d:Pow a):cY aZ 53 #[aE u] a λe w'=>e=aM (am<|fa u)/\Below (z<|G a) a w':=by
 have h:=qm u b d;have f:=qT u b;clear d;go_in
 go_wp2_with(go_at_call 88;refine h.mono ?_;rintro e g⟨rfl,c⟩;have HB:=U c;clear c)
 go_ret;exact⟨rfl,HB⟩
section
open Shelf
def Jo:Go.Shelf.Ren:=⟨λ|14=>191|16=>239|17=>240|19=>258|20=>259|21=>260|22=>261|23=>262|24=>263|25=>120|27=>278|26=>277|28=>283|29=>285|30=>206|31=>207|32=>208|33=>209|35=>205|34=>248|36=>249|37=>250|38=>251|39=>265|40=>266|n=>n,λ|9=>9|3=>3|22=>88|24=>47|25=>322|4=>4|34=>382|5=>5|36=>27|37=>103|0=>0|39=>384|21=>21|44=>398|47=>312|50=>405|48=>403|2=>2|52=>340|55=>342|59=>377|60=>81|20=>20|61=>378|65=>399|66=>400|67=>207|n=>n,λ|0=>3|1=>4|2=>2|3=>5|4=>6|n=>n⟩
def Vv:Go.Proofs.LaysPu.n14 aZ Jo:={mixed:=by kernel_rfl,f14:=func191.trans (bS H<|by kernel_rfl),f16:=func239.trans (bS H<|by kernel_rfl),f17:=func240.trans (bS H<|by kernel_rfl),f19:=func258.trans (bS H<|by kernel_rfl),f20:=func259.trans (bS H<|by kernel_rfl),f21:=func260.trans (bS H<|by kernel_rfl),f22:=func261.trans (bS H<|by kernel_rfl),f23:=func262.trans (bS H<|by kernel_rfl),f24:=func263.trans (bS H<|by kernel_rfl),f25:=func120.trans (bS H<|by kernel_rfl),f26:=func277.trans (bS H<|by kernel_rfl),f27:=func278.trans (bS H<|by kernel_rfl),f28:=func283.trans (bS H<|by kernel_rfl),f29:=func285.trans (bS H<|by kernel_rfl),f30:=func206.trans (bS H<|by kernel_rfl),f31:=func207.trans (bS H<|by kernel_rfl),f32:=func208.trans (bS H<|by kernel_rfl),f33:=func209.trans (bS H<|by kernel_rfl),f34:=func248.trans (bS H<|by kernel_rfl),f35:=func205.trans (bS H<|by kernel_rfl),f36:=func249.trans (bS H<|by kernel_rfl),f37:=func250.trans (bS H<|by kernel_rfl),f38:=func251.trans (bS H<|by kernel_rfl),f39:=func265.trans (bS H<|by kernel_rfl),f40:=func266.trans (bS H<|by kernel_rfl),t0:=underlying0,a0:=isAgg0,z0:=sizeOf0,v0:=zeroValue0,i0:=by kernel_rfl,t2:=underlying2,a2:=isAgg2,z2:=sizeOf2,v2:=zeroValue2,i2:=by kernel_rfl,t3:=underlying3,a3:=isAgg3,z3:=sizeOf3,v3:=zeroValue3,i3:=by kernel_rfl,t4:=underlying4,a4:=isAgg4,z4:=sizeOf4,v4:=zeroValue4,i4:=by kernel_rfl,t5:=underlying5,a5:=isAgg5,z5:=sizeOf5,v5:=zeroValue5,i5:=by kernel_rfl,t9:=underlying9,a9:=isAgg9,z9:=sizeOf9,v9:=zeroValue9,i9:=by kernel_rfl,t20:=underlying20,a20:=isAgg20,z20:=sizeOf20,v20:=zeroValue20,i20:=by kernel_rfl,t21:=underlying21,a21:=isAgg21,z21:=sizeOf21,v21:=zeroValue21,i21:=by kernel_rfl,t22:=underlying88,a22:=isAgg88,z22:=sizeOf88,v22:=zeroValue88,i22:=by kernel_rfl,t24:=underlying47,a24:=isAgg47,z24:=sizeOf47,v24:=zeroValue47,i24:=by kernel_rfl,t25:=underlying322,a25:=isAgg322,z25:=sizeOf322,v25:=zeroValue322,i25:=by kernel_rfl,t34:=underlying382,a34:=isAgg382,z34:=sizeOf382,v34:=zeroValue382,i34:=by kernel_rfl,c34:=by kernel_rfl,t36:=underlying27,a36:=isAgg27,z36:=sizeOf27,v36:=zeroValue27,i36:=by kernel_rfl,t37:=underlying103,a37:=isAgg103,z37:=sizeOf103,v37:=zeroValue103,i37:=by kernel_rfl,t39:=underlying384,a39:=isAgg384,z39:=sizeOf384,v39:=zeroValue384,i39:=by kernel_rfl,t44:=underlying398,a44:=isAgg398,z44:=sizeOf398,v44:=zeroValue398,i44:=by kernel_rfl,t47:=underlying312,a47:=isAgg312,z47:=sizeOf312,v47:=zeroValue312,i47:=by kernel_rfl,t48:=underlying403,a48:=isAgg403,z48:=sizeOf403,v48:=zeroValue403,i48:=by kernel_rfl,t50:=underlying405,a50:=isAgg405,z50:=sizeOf405,v50:=zeroValue405,i50:=by kernel_rfl,t52:=underlying340,a52:=isAgg340,z52:=sizeOf340,v52:=zeroValue340,i52:=by kernel_rfl,t55:=underlying342,a55:=isAgg342,z55:=sizeOf342,v55:=zeroValue342,i55:=by kernel_rfl,t59:=underlying377,a59:=isAgg377,z59:=sizeOf377,v59:=zeroValue377,i59:=by kernel_rfl,t60:=underlying81,a60:=isAgg81,z60:=sizeOf81,v60:=zeroValue81,i60:=by kernel_rfl,t61:=underlying378,a61:=isAgg378,z61:=sizeOf378,t65:=underlying399,a65:=isAgg399,z65:=sizeOf399,v65:=zeroValue399,i65:=by kernel_rfl,t66:=underlying400,a66:=isAgg400,z66:=sizeOf400,v66:=zeroValue400,i66:=by kernel_rfl,t67:=underlying207,a67:=isAgg207,z67:=sizeOf207,v67:=zeroValue207,i67:=by kernel_rfl,g0:=by kernel_rfl,m0:=by kernel_rfl,g1:=by kernel_rfl,m1:=by kernel_rfl,g2:=by kernel_rfl,m2:=by kernel_rfl,g3:=by kernel_rfl,m3:=by kernel_rfl,g4:=by kernel_rfl,m4:=by kernel_rfl}
def MS(w:Y)(e:TypeId)(s:ae):Below (z<|G w) w (Lib.bytesWorld w e s):=⟨rfl,rfl,rfl,by rw[Lib.bytesWorld_size];omega,λk a=>Lib.bytesWorld_at_old w e s k<|by omega⟩
end
def RT:∀u,u<18446744073709551616->∀r,Lib.parseUintM (2^64-1) 0 (Lib.decDigits u++r)=Lib.parseUintM (2^64-1) u r:=by
 intro u;induction u using Nat.strongRecOn with
 |_ u a=>
  intro b r;by_cases h:u<10
  .rw[Lib.decDigits_one h];have e:(UInt8.ofNat<|48+u).toNat=48+u:=by simp;omega
   simp only[df,cV,Lib.parseUintM,e];rw[dH (by omega),dF (by omega),dF<|by omega];congr 1;omega
  .have e:(UInt8.ofNat<|48+u%10).toNat=48+u%10:=by simp;omega
   rw[Lib.decDigits,dif_neg h,bA,a (u/10) (by omega)<|by omega];simp only[df,cV,Lib.parseUintM,e];rw[dH (by omega),dF (by omega),dF<|by omega];congr 1;omega
def Hg(a:b<18446744073709551616)(w:Y):cY aZ 191 #[am<|yy b,ar 10,ar 64] w λe c=>e=aM (dq #[aE b,.nilIface])/\Z ay w c:=by
 have h:=Any.strconv_ParseUint_10_at64_ok Vv (yy b) (by have:=qT b a;omega) b (by
  have e:(yy b).data.toList=Lib.decDigits b:=by simp[yy]
  rw[e];unfold Lib.parseUintB;rw[dF]
  .have:=RT b a [];rw[dM]at this;rw[this];rfl
  .intro d;have:=bS y d;rw[Lib.decDigits_length]at this;have f:=Lib.lt_pow_nDigits b;simp at this;rw[this]at f;have:b=0:=by omega
   subst this;rw[Lib.decDigits]at d;simp at d) w
 refine zx h ?_;rintro e c⟨rfl,rfl|rfl⟩;exact⟨rfl,Z.refl _ _⟩;exact⟨rfl,Z.aR (S:=ay)<|MS w _ _⟩
def Wd(p r:ae):(p++r).extract 0 p.size=p:=ByteArray.extract_append_eq_left rfl
def To(p r:ae):(p++r).extract p.size (p.size+r.size)=r:=ByteArray.extract_append_eq_right rfl rfl
def Oi(p r:ae)(d:p.size<=100)(f:r.size<=100)(w:Y):cY aZ 257 #[am<|p++r,am p] w λe b=>e=aM (aN ci)/\b=w:=by
 have g:(p++r).size=p.size+r.size:=la;have c:=Wd p r;generalize p++r=s at*;have a:(p.size:X)<=(s.size:X):=by omega
 go_in
 go_wp2;go_ret;exact⟨rfl,rfl⟩
def MJ(p r:ae)(f:p.size<=100)(g:r.size<=100)(w:Y):cY aZ 190 #[am<|p++r,am p] w λe b=>e=aM (dq #[am r,aN ci])/\b=w:=by
 have a:=Oi p r f g w;have k:(p++r).size=p.size+r.size:=la;have j:=To p r;have d:cY aZ 238 #[am<|p++r,am p] w λe b=>e=aM (dq #[am r,aN ci])/\b=w:=by generalize p++r=s at*;(go_in);(go_wp2_with(go_at_call 257;refine a.mono ?_;rintro e c⟨rfl,i⟩;subst c));(go_ret2);exact⟨rfl,rfl⟩
 clear a;generalize p++r=s at*;go_in
 go_wp2_with(go_at_call 238;refine d.mono ?_;rintro e c⟨rfl,i⟩;subst c)
 go_ret2
 exact⟨rfl,rfl⟩
def Fu(s p:ae)(o:s.size<=1000)(n:p.size<=100)(a:p.size<=s.size->s.extract 0 p.size≠p)(w:Y):cY aZ 190 #[am s,am p] w λe c=>e=aM (dq #[am s,aN aX])/\c=w:=by
 have b:cY aZ 257 #[am s,am p] w λe c=>e=aM (aN aX)/\c=w:=by by_cases f:p.size<=s.size;(.have j:=a f;(have d:(p.size:X)<=(s.size:X):=by omega);(have m:((s.extract 0 p.size).toList==p.toList)=aX:=by rw[kE];intro l;exact j<|FF l);clear a;(go_in);go_wp2;go_ret;exact⟨rfl,rfl⟩);(have d:¬(p.size:X)<=(s.size:X):=by omega);clear a;(go_in);go_wp2;go_ret;exact⟨rfl,rfl⟩
 have i:cY aZ 238 #[am s,am p] w λe c=>e=aM (dq #[am s,aN aX])/\c=w:=by clear a;(go_in);(go_wp2_with(go_at_call 257;refine b.mono ?_;rintro e g⟨rfl,k⟩;subst g));(go_ret2);exact⟨rfl,rfl⟩
 clear a b;go_in
 go_wp2_with(go_at_call 238;refine i.mono ?_;rintro e g⟨rfl,k⟩;subst g)
 go_ret2
 exact⟨rfl,rfl⟩
def XX(u:M):tG.size<=(fa u).size->(fa u).extract 0 tG.size≠tG:=λ_ c=>by
 have h:=sO c;rw[ByteArray.data_extract,Array.toList_extract,sX]at h;have:=bS (λl:cJ UInt8=>l[0]?) h;simp[List.extract,show tG.size=6 from rfl,show tG.data.toList=[116,97,98,108,101,45]from rfl]at this
def WU(w a:Y)(e:Ending)(n:X)(ok:Bool):Prop:=e=aM (dq #[aE n,aN ok])/\Z ay w a
def EB(j:b<18446744073709551616)(n:Pow a):cY aZ 132 #[am<|fQ b] a λp r=>WU a r p b ci:=by
 have q:=qT b j;have f:=Hg j a;have e:=λW(h:Z ay a W)=>qm b j<|Pow.aj n h id;have k:=MJ tG (yy b) (by decide) (by omega) a;rw[show tG++yy b=fQ b from rfl]at k;clear n;generalize fQ b=o at*;clear q;go_in
 go_wp2_with fail
 apply k.mono;rintro p l⟨rfl,s⟩;subst l;go_wp2_with fail
 apply f.mono;rintro p l⟨rfl,c⟩;have m:=e l c;have g:=U c;clear c e f k;go_wp2_with fail
 apply m.mono;rintro p t⟨rfl,d⟩;have i:=U<|g.cz<|Z.aR (S:=ay) d;clear d m;go_wp2;go_ret2
 exact⟨rfl,i⟩
def EE(l:b<18446744073709551616)(q:Pow a):cY aZ 132 #[am<|fa b] a λn u=>WU a u n b ci:=by
 have t:=qT b l;have f:=Hg l a;have e:=λW(h:Z ay a W)=>qm b l<|Pow.aj q h id;have g:(fa b).size<=1000:=by unfold fa;rw[la];have:Rs.size<=100:=(by decide);omega
 have p:=Fu (fa b) tG g (by decide) (XX b) a;have m:=MJ Rs (yy b) (by decide) (by omega) a;rw[show Rs++yy b=fa b from rfl]at m;clear q g;generalize fa b=r at*;clear t;go_in
 go_wp2_with fail
 apply p.mono;rintro n i⟨rfl,s⟩;subst i;go_wp2_with fail
 apply m.mono;rintro n i⟨rfl,s⟩;subst i;go_wp2_with fail
 apply f.mono;rintro n i⟨rfl,c⟩;have o:=e i c;have j:=U c;clear c e f m p;go_wp2_with fail
 apply o.mono;rintro n v⟨rfl,d⟩;have k:=U<|j.cz<|Z.aR (S:=ay) d;clear d o;go_wp2;go_ret2
 exact⟨rfl,k⟩
def ED(w:Y):cY aZ 132 #[am iR] w λe g=>WU w g e 0 aX:=by
 have b:=Fu iR tG (by decide) (by decide) (λ_=>by decide) w;have c:=Fu iR Rs (by decide) (by decide) (λ_=>by decide) w;generalize iR=d at*;go_in
 go_wp2_with fail
 apply b.mono;rintro e a⟨rfl,f⟩;subst a;go_wp2_with fail
 apply c.mono;rintro e a⟨rfl,f⟩;subst a;clear b c;go_wp2;go_ret2
 exact⟨rfl,Z.refl _ _⟩
def UT(h:cY aZ 132 #[am t] a λe b=>WU a b e k ci):cY aZ 101 #[am t] a λe b=>e=aM (aN ci)/\Z ay a b:=by
 go_in
 go_wp2_with fail
 apply h.mono;rintro e f⟨rfl,c⟩;have d:=U c;clear c h;go_wp2;go_ret;exact⟨rfl,d⟩
def Zz(w:Y):cY aZ 101 #[am iR] w λe d=>e=aM (aN ci)/\Z ay w d:=by
 have h:=ED w;have f:(iR.toList==[115,116,97,116,101])=aX:=by kernel_rfl
 have g:(iR.toList==[115,116,97,116,101,46,110,101,119])=ci:=by kernel_rfl
 generalize iR=b at*;go_in
 go_wp2_with fail
 apply h.mono;rintro e i⟨rfl,a⟩;have c:=U a;clear a h;go_wp2;go_ret;exact⟨rfl,c⟩
section
open Shelf
def Jn:Go.Shelf.Ren:=⟨λ|25=>120|n=>n,λ|9=>9|3=>3|4=>4|37=>103|0=>0|47=>312|5=>5|n=>n,λ|n=>n⟩
def Vu:Go.Proofs.LaysPu.n25 aZ Jn:={mixed:=by kernel_rfl,f25:=func120.trans (bS H<|by kernel_rfl),t0:=underlying0,a0:=isAgg0,z0:=sizeOf0,v0:=zeroValue0,i0:=by kernel_rfl,t3:=underlying3,a3:=isAgg3,z3:=sizeOf3,v3:=zeroValue3,i3:=by kernel_rfl,t4:=underlying4,a4:=isAgg4,z4:=sizeOf4,v4:=zeroValue4,i4:=by kernel_rfl,t5:=underlying5,a5:=isAgg5,z5:=sizeOf5,v5:=zeroValue5,i5:=by kernel_rfl,t9:=underlying9,a9:=isAgg9,z9:=sizeOf9,v9:=zeroValue9,i9:=by kernel_rfl,t37:=underlying103,a37:=isAgg103,z37:=sizeOf103,v37:=zeroValue103,i37:=by kernel_rfl,t47:=underlying312,a47:=isAgg312,z47:=sizeOf312,v47:=zeroValue312,i47:=by kernel_rfl}
def sY(s:ae)(w:Y)(d:s.size<=281474976710656):cY aZ 75 #[am s] w λe a=>e=aM (am s)/\Below (z<|G w) w a:=by
 have h:=AnyPu.stringslite_Clone Vu s w d;have c:cY aZ 120 #[am s] w λe a=>e=aM (am s)/\Below (z<|G w) w a:=h;clear h;go_in
 go_wp2_with fail
 apply c.mono;rintro e f⟨rfl,b⟩;have HB:=U b;clear b;go_wp2;go_ret;exact⟨rfl,HB⟩
end
section
open Shelf
def LU:Go.Shelf.Ren:=⟨λ|190=>87|125=>144|258=>143|128=>204|129=>205|302=>195|303=>196|304=>197|305=>198|306=>199|307=>200|308=>201|309=>202|310=>203|333=>242|329=>243|330=>244|334=>245|335=>246|336=>247|344=>264|n=>n,λ|31=>132|9=>9|3=>3|46=>27|0=>0|51=>81|53=>88|4=>4|183=>331|182=>330|131=>335|5=>5|218=>371|222=>374|228=>387|229=>388|n=>n,λ|n=>n⟩
def Tryz.lays190:Go.Proofs.Lays.n190 aZ LU:={mixed:=by kernel_rfl,f125:=func144.trans (bS H<|by kernel_rfl),f128:=func204.trans (bS H<|by kernel_rfl),f129:=func205.trans (bS H<|by kernel_rfl),f190:=func87.trans (bS H<|by kernel_rfl),f258:=func143.trans (bS H<|by kernel_rfl),f302:=func195.trans (bS H<|by kernel_rfl),f303:=func196.trans (bS H<|by kernel_rfl),f304:=func197.trans (bS H<|by kernel_rfl),f305:=func198.trans (bS H<|by kernel_rfl),f306:=func199.trans (bS H<|by kernel_rfl),f307:=func200.trans (bS H<|by kernel_rfl),f308:=func201.trans (bS H<|by kernel_rfl),f309:=func202.trans (bS H<|by kernel_rfl),f310:=func203.trans (bS H<|by kernel_rfl),f329:=func243.trans (bS H<|by kernel_rfl),f330:=func244.trans (bS H<|by kernel_rfl),f333:=func242.trans (bS H<|by kernel_rfl),f334:=func245.trans (bS H<|by kernel_rfl),f335:=func246.trans (bS H<|by kernel_rfl),f336:=func247.trans (bS H<|by kernel_rfl),f344:=func264.trans (bS H<|by kernel_rfl),t0:=underlying0,a0:=isAgg0,z0:=sizeOf0,v0:=zeroValue0,t3:=underlying3,a3:=isAgg3,z3:=sizeOf3,v3:=zeroValue3,t4:=underlying4,a4:=isAgg4,z4:=sizeOf4,v4:=zeroValue4,t5:=underlying5,a5:=isAgg5,z5:=sizeOf5,v5:=zeroValue5,t9:=underlying9,a9:=isAgg9,z9:=sizeOf9,v9:=zeroValue9,t31:=underlying132,a31:=isAgg132,z31:=sizeOf132,v31:=zeroValue132,t46:=underlying27,a46:=isAgg27,z46:=sizeOf27,v46:=zeroValue27,t51:=underlying81,a51:=isAgg81,z51:=sizeOf81,v51:=zeroValue81,t53:=underlying88,a53:=isAgg88,z53:=sizeOf88,v53:=zeroValue88,t131:=underlying335,a131:=isAgg335,z131:=sizeOf335,v131:=zeroValue335,t182:=underlying330,a182:=isAgg330,z182:=sizeOf330,v182:=zeroValue330,t183:=underlying331,a183:=isAgg331,z183:=sizeOf331,v183:=zeroValue331,t218:=underlying371,a218:=isAgg371,z218:=sizeOf371,v218:=zeroValue371,t222:=underlying374,a222:=isAgg374,z222:=sizeOf374,v222:=zeroValue374,t228:=underlying387,a228:=isAgg387,z228:=sizeOf387,v228:=zeroValue387,t229:=underlying388,a229:=isAgg388,z229:=sizeOf388,v229:=zeroValue388}
def strs(a:cJ ae):gW:=a.map Value.string
def Jm(w:Y):cY aZ 205 #[aE 0] w λe a=>e=aM (ar 0)/\a=w:=by
 go_in
 go_wp2;go_ret;exact⟨by simp;kernel_rfl,rfl⟩
def OF(w:Y):cY aZ 144 #[aE 0] w λe a=>e=aM (ar 0)/\a=w:=by
 have h:=Jm w;go_in
 go_wp2_with(go_at_call 205;refine h.mono ?_;rintro e a⟨rfl,rfl⟩)
 go_wp2;go_ret;exact⟨rfl,rfl⟩
def Jt(w:Y):cY aZ 195 #[az,ar 0,ar 0] w λe a=>e=aM (dq #[])/\a=w:=by
 go_in
 go_wp2;refine gX 1 ?_;rw[gd];go_wp2;go_end0;exact⟨rfl,rfl⟩
def UO(w:Y):cY aZ 143 #[az,ar 0,ar 0,ar 0] w λe a=>e=aM (dq #[])/\a=w:=by
 have h:=Jt w;go_in
 go_wp2;refine gX 1 ?_;rw[gd];go_wp2_with fail
 apply h.mono;rintro e a⟨rfl,rfl⟩;go_wp2;refine ct (iX rfl _ _ _) rfl ?_;exact⟨rfl,rfl⟩
def Rj(w:Y):cY aZ 87 #[az] w λe a=>e=aM (dq #[])/\a=w:=by
 have h:=UO w;have b:=OF w;go_in
 go_wp2_with(first|(go_at_call 144;refine b.mono ?_;rintro e a⟨rfl,rfl⟩)|(go_at_call 143;refine h.mono ?_;rintro e a⟨rfl,rfl⟩))
 go_wp2;go_end0;exact⟨rfl,rfl⟩
def Ut(c:cJ ae)(Q:a.ownsRow b 9 1 d (y c) (strs c))(hn:y c<=1000000000000):cY aZ 87 #[d] a λD C=>D=aM (dq #[])/\∃P:cJ ae,P.Perm c/\C.ownsRow b 9 1 d (y P) (strs P)/\Z (λB=>cK d=H B) a C:=by
 rcases Q.2 with⟨rfl,h0⟩|⟨u,t,h,rfl,E,v,O,F,K,q⟩;apply(Rj a).mono;rintro D C⟨rfl,rfl⟩;exact⟨rfl,c,lU _,Q,Z.refl _ _⟩;obtain⟨k,p⟩:∃k,c.map (λT=>T.data.toList)=k:=⟨_,rfl⟩;(have o:y k=y c:=by rw[<-p,dj]);(have e:∀j(l:j<y c),h[j]?=H (am c[j]):=by intro j l;(have s:(h.toList.take<|y c*1)[j]?=(strs c)[j]?:=by rw[q]);rw[rB,oJ l]at s;rw[<-wZ,s];simp[strs,l]);(have V:Go.Sort.Holds encStr a u 0 k.toArray:=by intro j l;(have w:j<y c:=by simpa[o]using l);(have L:j<y k:=by omega);refine⟨?_,by simp[World.frozen?,v]⟩;rw[dE,cg v,e j w];(have:k.toArray[j]! =c[j].data.toList:=by rw[getElem!_pos _ j<|by simpa using L];simp[<-p]);rw[this]);have W:=Any.slices_Sort_string Tryz.lays190 u 0 t k a V (ak v) (by omega);rw[o]at W;apply W.mono;rintro D C⟨rfl,aa,A,rfl⟩;obtain⟨g,x⟩:∃g,k.mergeSort (λc a=>decide<|c<=a)=g:=⟨_,rfl⟩;(have f:g.Perm k:=by rw[<-x];exact List.mergeSort_perm _ _);rw[x];(have r:y g=y c:=by rw[f.length_eq,o]);(have m:(Go.Sort.grow (Go.Sort.putRow encStr (Go.Sort.ahead a aa) u 0 g.toArray) A).heap[u]?=H (aw (Go.Sort.putCells encStr 0 g.toArray h) 9 (0,0)):=by show((a.heap.modify u _)++A)[u]?=_;rw[tz (by simp;exact ak v),qB,dH rfl,v];rfl);(have i:∀B,B<z (G a)->B≠u->(Go.Sort.grow (Go.Sort.putRow encStr (Go.Sort.ahead a aa) u 0 g.toArray) A).heap[B]?=a.heap[B]?:=by intro B N n;show((a.heap.modify u _)++A)[B]?=_;rw[tz (by simp;exact N),qB,dF<|λD=>n D.symm]);refine⟨rfl,g.map<|λS=>⟨S.toArray⟩,?_,⟨by simp[strs],.inr ⟨u,t,_,by rw[dj,r],E,m,by rw[dj,r];exact O,F,by simpa[Go.Sort.putCells]using K,?_⟩⟩,rfl,rfl,rfl,?_,?_⟩;have s:=f.map (λS:cJ UInt8=>(⟨S.toArray⟩:ae));rw[<-p,gG]at s;(have w:c.map ((λS:cJ UInt8=>(⟨S.toArray⟩:ae))∘λT=>T.data.toList)=c:=by(conv=>rhs;rw[<-xF c]);apply oB;intro T _;simp);rw[w]at s;exact s;apply ut;intro j;rw[dj,r,rB];by_cases l:j<y c;rw[oJ l];(have w:j<y g:=by omega);(have:(Go.Sort.putCells encStr 0 g.toArray h).toList[j]?=H (am ⟨g[j].toArray⟩):=by rw[wZ];unfold Go.Sort.putCells;rw[Array.getElem?_mapIdx,e j l];simp[w,encStr]);rw[this];simp[strs,w];rw[List.getElem?_take_eq_none (by omega),qz (by simp[strs];omega)];show z (G a)<=((a.heap.modify u _)++A).size;simp;intro B N n;exact i B N<|λD=>n (by rw[D];rfl)
end
