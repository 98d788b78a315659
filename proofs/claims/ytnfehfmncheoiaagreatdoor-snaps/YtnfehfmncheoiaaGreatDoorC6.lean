import Derived.BigCall
import Derived.BigGuard
import Derived.CellFam
import Derived.Ground.MpProg
import Derived.Ground.NamesProg
import Derived.Lib.AppendIntMem
import Derived.Lib.Hide
import Derived.Lib.ItoaLen
import Derived.Lib.ItoaMem
import Derived.Lib.ItoaWalk
import Derived.Lib.Walk
import Derived.Shelf.Pu.Clone
import Derived.Shelf.Pu.ParseUintPublic10
import Derived.Shelf.Sort.Plain
import Derived.Shelf.Strconv.Itoa1
import Derived.Shelf.Strconv.Itoa2
import Derived.Test.YtnfehfmncheoiaaGreatDoorC2
open _root_ renaming List.length→y,Option.some→H,Array.size→z,Go.World.heap→G,Go.Value.ownBlock→bV,Go.World.alloc→ct,Bool.false→bE,Bool.true→bU,Nat→M,Int→X,List→cr,Go.Calls→cw,Go.Proofs.Tryz.prog→bF,Go.Value.string→J,Go.Value.bool→aL,Go.Value.tuple→dA
namespace Go.Proofs.YtnfehfmncheoiaaGreatDoor
open ChangeShapes WideShapes RowKit Proofs.Tryz
set_option maxHeartbeats 16000000
set_option linter.all false
set_option maxRecDepth 100000
variable{a:Y}{b c:M}{d:aa}{v:ab}
section
open Go.Shelf
def Lr:Go.Shelf.Ren:=⟨λ|283=>242|n=>n,λ|3=>3|9=>9|4=>4|n=>n,λ|n=>n⟩
def Tryz.lays283:Go.Proofs.Lays.n283 bF Lr:={mixed:=by kernel_rfl,f283:=func242.trans (bS H<|by kernel_rfl),t3:=underlying3,a3:=isAgg3,z3:=sizeOf3,v3:=zeroValue3,t4:=underlying4,a4:=isAgg4,z4:=sizeOf4,v4:=zeroValue4,t9:=underlying9,a9:=isAgg9,z9:=sizeOf9,v9:=zeroValue9}
def Lq:Go.Shelf.Ren:=⟨λ|284=>243|129=>240|317=>269|318=>270|n=>n,λ|53=>103|3=>3|212=>389|0=>0|4=>4|46=>47|5=>5|9=>9|n=>n,λ|17=>2|n=>n⟩
def Tryz.lays284:Go.Proofs.LaysM.n284 bF Lq:={mixed:=by kernel_rfl,f129:=func240.trans (bS H<|by kernel_rfl),f284:=func243.trans (bS H<|by kernel_rfl),f317:=func269.trans (bS H<|by kernel_rfl),f318:=func270.trans (bS H<|by kernel_rfl),t0:=underlying0,a0:=isAgg0,z0:=sizeOf0,v0:=zeroValue0,t3:=underlying3,a3:=isAgg3,z3:=sizeOf3,v3:=zeroValue3,t4:=underlying4,a4:=isAgg4,z4:=sizeOf4,v4:=zeroValue4,t5:=underlying5,a5:=isAgg5,z5:=sizeOf5,v5:=zeroValue5,t9:=underlying9,a9:=isAgg9,z9:=sizeOf9,v9:=zeroValue9,t46:=underlying47,a46:=isAgg47,z46:=sizeOf47,v46:=zeroValue47,t53:=underlying103,a53:=isAgg103,z53:=sizeOf103,v53:=zeroValue103,t212:=underlying389,a212:=isAgg389,z212:=sizeOf389,v212:=zeroValue389,g17:=by kernel_rfl,i0:=by kernel_rfl,i3:=by kernel_rfl,i4:=by kernel_rfl,i5:=by kernel_rfl,i9:=by kernel_rfl,i46:=by kernel_rfl,i53:=by kernel_rfl,i212:=by kernel_rfl,m17:=by kernel_rfl}
def Lp:Go.Shelf.Ren:=⟨λ|285=>244|n=>n,λ|37=>126|53=>103|3=>3|4=>4|51=>96|9=>9|5=>5|0=>0|n=>n,λ|n=>n⟩
def Tryz.lays285:Go.Proofs.Lays.n285 bF Lp:={mixed:=by kernel_rfl,f285:=func244.trans (bS H<|by kernel_rfl),t0:=underlying0,a0:=isAgg0,z0:=sizeOf0,v0:=zeroValue0,t3:=underlying3,a3:=isAgg3,z3:=sizeOf3,v3:=zeroValue3,t4:=underlying4,a4:=isAgg4,z4:=sizeOf4,v4:=zeroValue4,t5:=underlying5,a5:=isAgg5,z5:=sizeOf5,v5:=zeroValue5,t9:=underlying9,a9:=isAgg9,z9:=sizeOf9,v9:=zeroValue9,t37:=underlying126,a37:=isAgg126,z37:=sizeOf126,v37:=zeroValue126,t51:=underlying96,a51:=isAgg96,z51:=sizeOf96,v51:=zeroValue96,t53:=underlying103,a53:=isAgg103,z53:=sizeOf103,v53:=zeroValue103}
end
section
open Go.Shelf Go.Sort
def Pow(w:Y):Prop:=Lib.TabIs bF w "internal/strconv.uint64pow10" .u64 Lib.pow10Tab
def DY:prog.globalNamed "internal/strconv.uint64pow10" =H 2:=by kernel_rfl
def Pow.dh{w w':Y}(h:Pow w)(a:w'.heap[2]?=w.heap[2]?):Pow w':=by
 unfold Pow Lib.TabIs World.var? at*;rw[DY]at*;simp only[qE]at*;rw[a];exact h
def Pow.lt(h:Pow a):2<z (G a):=by
 unfold Pow Lib.TabIs World.var? at h;rw[DY]at h;simp only[qE]at h;rcases dE 2 (z<|G a)with b|b;exact b;rw[eF b]at h;simp at h
def Pow.ar{S:fI}{w w':Y}(h:Pow w)(b:Z S w w')(a:¬S 2):Pow w':=h.dh<|b.block _ h.lt a
def EX(u:M):ab:=⟨(Lib.decDigits u).toArray⟩
def FR(u:M)(c:u<18446744073709551616)(t:Pow a):cw bF 206 #[aI u,am 10] a λk d=>k=aO (J<|EX u)/\Below (z<|G a) a d:=by
 by_cases j:u<100;(.have b:∀W,cw bF 242 #[am u] W λk d=>k=aO (J<|EX u)/\d=W:=λW=>Any.internal_strconv_small Tryz.lays283 u j W;(have e:(u:X)<100:=by omega);(have f:IntKind.i64.wrap (u:X)=(u:X):=by rw[bO];omega);clear t;(go_in);(go_wp2_with(go_at_call 242;refine(b _).mono ?_;rintro k d⟨rfl,rfl⟩));go_ret;exact⟨rfl,Below.refl _ _⟩)
 .have o:1<=u:=by omega
  have s:Lib.nDigits u<=20:=by have:=Lib.numDigits_eq u o c;split at this<;>omega
  have g:prog.arrayLen 369=24:=by kernel_rfl
  have B:∀W,(Instr.sliceAt 369 (aw<|z<|G a) none (H<|am (Lib.nDigits u:X)) none).run bF W=.ok (bC (z<|G a) 0 (Lib.nDigits u) 24) W:=λW=>by
   rw[run_sliceAt_array_h W 369 (R (z<|G a) 0) (by kernel_rfl) .i64 (Lib.nDigits u:X) (by omega) (by rw[g];omega)];rw[g];have r:(sizeOf<|prog.elem 369).run bF W=.ok 1 W:=by kernel_rfl
   rw[r];simp[Result.andThen,slicedAt,Lib.add_plain]
  have f:=Lib.holds_zero0 a 369 (Lib.nDigits u) (by omega);have l:cw bF 244 #[bC (z<|G a) 0 (Lib.nDigits u) 24,aI u] (ct a<|aq Lib.zeros24 369) λk d=>
   k=aO (dA #[])/\(∃(C:M)(b:Array UInt8),d=(putRow (λ(j:UInt8)=>tD (j.toNat:X)) (ct a<|aq Lib.zeros24 369) (z<|G a) 0 b).drewN C/\∃i,Lib.FmtInv (Lib.nDigits u) u 0 i b):=by
    have:=Any.internal_strconv_formatBase10 Tryz.lays285 (z<|G a) 0 24 u (Array.replicate (Lib.nDigits u) 0) (ct a<|aq Lib.zeros24 369) f (by rw[nu];exact Lib.lt_pow_nDigits u) c (by rw[nu];omega);rw[nu]at this;apply this.mono;rintro k d⟨r,C,i,b,w,x⟩;exact⟨r,C,b,w,i,x⟩
  have m:∀W,Pow W->cw bF 243 #[aI u] W λk d=>k=aO (am<|Lib.nDigits u)/\d=W:=λW a=>Any.internal_strconv_numDigits Tryz.lays284 u o c W a;have n:=m (ct a<|aq Lib.zeros24 369)<|Lib.tabIs_alloc t _;have q:=U f;have D:(100:X)<=(u:X):=by omega
  have e:=U (show∀(p:M)(b:Array UInt8),(∃i,Lib.FmtInv (Lib.nDigits u) u 0 i b)->(convert 126 9<|bC (z<|G a) 0 (Lib.nDigits u) 24).run bF ((putRow (λ(j:UInt8)=>tD (j.toNat:X)) (ct a<|aq Lib.zeros24 369) (z<|G a) 0 b).drewN p)=.ok (J<|EX u) ((putRow (λ(j:UInt8)=>tD (j.toNat:X)) (ct a<|aq Lib.zeros24 369) (z<|G a) 0 b).drewN p)/\Below (z<|G a) a ((putRow (λ(j:UInt8)=>tD (j.toNat:X)) (ct a<|aq Lib.zeros24 369) (z<|G a) 0 b).drewN p)from by
   rintro p b⟨i,hF⟩;constructor
   .have h:=vu (P:=bF) ((putRow (λ(j:UInt8)=>tD (j.toNat:X)) (ct a<|aq Lib.zeros24 369) (z<|G a) 0 b).drewN p) 126 9 5 (R (z<|G a) 0) 24 (Lib.decDigits u) (by kernel_rfl) (by kernel_rfl) (by kernel_rfl) (λw r=>by
     rw[Lib.row_is_numeral hF w r,Lib.add_plain,World.cell?_drewN];exact cell?_putRow (λ(j:UInt8)=>tD (j.toNat:X)) _ (z (G a)) 0 _ b q (by rw[hF.size,nu]) w (by rw[hF.size];rw[Lib.decDigits_length]at r;exact r))
    rw[Lib.decDigits_length]at h;exact h
   .obtain⟨w,r⟩:=Lib.fin_at a (aq Lib.zeros24 369) b p 0;rw[r];exact Lib.below_grow _ a (ah _) p w)
  clear f g m t;unfold Lib.zeros24 at*;go_in
  go_wp2_with(first
   |(go_at_call 243;refine n.mono ?_;rintro k E⟨rfl,rfl⟩)
   |(go_at_call 244;refine l.mono ?_;rintro k F⟨rfl,p,b,rfl,hF⟩;have A:=(e p b hF).1;have v:=U (e p b hF).2;clear hF))
  go_ret;exact⟨rfl,v⟩
def th(u:M)(b:u<18446744073709551616)(d:Pow a):cw bF 146 #[aI u,am 10] a λg f=>g=aO (J<|EX u)/\Below (z<|G a) a f:=by
 have h:=FR u b d;clear d;go_in
 go_wp2_with(go_at_call 206;refine h.mono ?_;rintro g i⟨rfl,c⟩;have e:=U c;clear c)
 go_ret;exact⟨rfl,e⟩
end
def OE(l:cr UInt8):M:=l.foldl (λa d=>a*10+(d.toNat-48)) 0
def yX(u:M):OE (Lib.decDigits u)=u:=by
 induction u using Nat.strongRecOn with
 |ind u a=>
  rw[Lib.decDigits];split
  .rename_i h;unfold OE;simp[UInt8.toNat_ofNat'];omega
  .rename_i h;have:=a (u/10) (by omega);unfold OE at*;rw[iJ,this];simp[UInt8.toNat_ofNat'];omega
def Xm:ab:=⟨#[116,97,98,108,101,45]⟩
def YC:ab:=⟨#[108,111,103,45]⟩
def gR:ab:=⟨#[115,116,97,116,101]⟩
def uR:ab:=⟨#[115,116,97,116,101,46,110,101,119]⟩
def gJ(u:M):ab:=Xm++EX u
def iM(u:M):ab:=YC++EX u
def Mr(a b:ab):(a++b).data.toList=a.data.toList++b.data.toList:=by simp
def wa{b:ab}(h:v=b):v.data.toList=b.data.toList:=by rw[h]
def uP(u:M):(gJ u).data.toList=[116,97,98,108,101,45]++Lib.decDigits u:=by unfold gJ;rw[Mr];rfl
def Bp(u:M):(iM u).data.toList=[108,111,103,45]++Lib.decDigits u:=by unfold iM;rw[Mr];rfl
def uQ(h:gJ b=gJ c):b=c:=by
 have:=wa h;rw[uP,uP,List.append_cancel_left_eq]at this;rw[<-yX b,this,yX]
def mH(u v:M):gJ u≠iM v:=by
 intro h;have:=wa h;rw[uP,Bp]at this;simp at this
def vJ(u:M):gJ u≠gR:=by
 intro h;have:=wa h;rw[uP]at this;simp[gR]at this
def Dv(u:M):gJ u≠uR:=by
 intro h;have:=wa h;rw[uP]at this;simp[uR]at this
def sd(u:M):iM u≠gR:=by
 intro h;have:=wa h;rw[Bp]at this;simp[gR]at this
def NV(u:M):iM u≠uR:=by
 intro h;have:=wa h;rw[Bp]at this;simp[uR]at this
def Ip:gR≠uR:=by
 intro h;have:=wa h;simp[gR,uR]at this
def Hj(u:M)(h:u<18446744073709551616):(EX u).size<=20:=by
 have a:(EX u).size=y (Lib.decDigits u):=by simp[EX,ByteArray.size]
 rw[a,Lib.decDigits_length];exact Lib.nDigits_le20 u h
def AY(u:M)(b:u<18446744073709551616)(d:Pow a):cw bF 202 #[aI u] a λg f=>g=aO (J<|gJ u)/\Below (z<|G a) a f:=by
 have h:=th u b d;have i:=Hj u b;clear d;go_in
 go_wp2_with(go_at_call 146;refine h.mono ?_;rintro g j⟨rfl,c⟩;have e:=U c;clear c)
 go_ret;exact⟨rfl,e⟩
def vR(u:M)(b:u<18446744073709551616)(d:Pow a):cw bF 92 #[aI u] a λf w'=>f=aO (J<|iM u)/\Below (z<|G a) a w':=by
 have h:=th u b d;have g:=Hj u b;clear d;go_in
 go_wp2_with(go_at_call 146;refine h.mono ?_;rintro f i⟨rfl,c⟩;have e:=U c;clear c)
 go_ret;exact⟨rfl,e⟩
section
open Go.Shelf
def IU:Go.Shelf.Ren:=⟨λ|14=>247|16=>274|17=>275|19=>286|20=>287|21=>288|22=>289|23=>290|24=>291|25=>162|27=>294|26=>293|28=>295|29=>296|30=>242|31=>243|32=>244|33=>245|35=>240|34=>269|36=>270|37=>271|38=>272|39=>283|40=>284|n=>n,λ|9=>9|3=>3|22=>103|24=>50|25=>119|4=>4|34=>398|5=>5|36=>47|37=>126|0=>0|39=>400|21=>21|44=>407|47=>343|50=>410|48=>408|2=>2|52=>369|55=>371|59=>389|60=>96|20=>20|61=>390|65=>404|66=>405|67=>278|n=>n,λ|0=>5|1=>6|2=>2|3=>3|4=>4|n=>n⟩
def Un:Go.Proofs.LaysPu.n14 bF IU:={mixed:=by kernel_rfl,f14:=func247.trans (bS H<|by kernel_rfl),f16:=func274.trans (bS H<|by kernel_rfl),f17:=func275.trans (bS H<|by kernel_rfl),f19:=func286.trans (bS H<|by kernel_rfl),f20:=func287.trans (bS H<|by kernel_rfl),f21:=func288.trans (bS H<|by kernel_rfl),f22:=func289.trans (bS H<|by kernel_rfl),f23:=func290.trans (bS H<|by kernel_rfl),f24:=func291.trans (bS H<|by kernel_rfl),f25:=func162.trans (bS H<|by kernel_rfl),f26:=func293.trans (bS H<|by kernel_rfl),f27:=func294.trans (bS H<|by kernel_rfl),f28:=func295.trans (bS H<|by kernel_rfl),f29:=func296.trans (bS H<|by kernel_rfl),f30:=func242.trans (bS H<|by kernel_rfl),f31:=func243.trans (bS H<|by kernel_rfl),f32:=func244.trans (bS H<|by kernel_rfl),f33:=func245.trans (bS H<|by kernel_rfl),f34:=func269.trans (bS H<|by kernel_rfl),f35:=func240.trans (bS H<|by kernel_rfl),f36:=func270.trans (bS H<|by kernel_rfl),f37:=func271.trans (bS H<|by kernel_rfl),f38:=func272.trans (bS H<|by kernel_rfl),f39:=func283.trans (bS H<|by kernel_rfl),f40:=func284.trans (bS H<|by kernel_rfl),t0:=underlying0,a0:=isAgg0,z0:=sizeOf0,v0:=zeroValue0,i0:=by kernel_rfl,t2:=underlying2,a2:=isAgg2,z2:=sizeOf2,v2:=zeroValue2,i2:=by kernel_rfl,t3:=underlying3,a3:=isAgg3,z3:=sizeOf3,v3:=zeroValue3,i3:=by kernel_rfl,t4:=underlying4,a4:=isAgg4,z4:=sizeOf4,v4:=zeroValue4,i4:=by kernel_rfl,t5:=underlying5,a5:=isAgg5,z5:=sizeOf5,v5:=zeroValue5,i5:=by kernel_rfl,t9:=underlying9,a9:=isAgg9,z9:=sizeOf9,v9:=zeroValue9,i9:=by kernel_rfl,t20:=underlying20,a20:=isAgg20,z20:=sizeOf20,v20:=zeroValue20,i20:=by kernel_rfl,t21:=underlying21,a21:=isAgg21,z21:=sizeOf21,v21:=zeroValue21,i21:=by kernel_rfl,t22:=underlying103,a22:=isAgg103,z22:=sizeOf103,v22:=zeroValue103,i22:=by kernel_rfl,t24:=underlying50,a24:=isAgg50,z24:=sizeOf50,v24:=zeroValue50,i24:=by kernel_rfl,t25:=underlying119,a25:=isAgg119,z25:=sizeOf119,v25:=zeroValue119,i25:=by kernel_rfl,t34:=underlying398,a34:=isAgg398,z34:=sizeOf398,v34:=zeroValue398,i34:=by kernel_rfl,c34:=by kernel_rfl,t36:=underlying47,a36:=isAgg47,z36:=sizeOf47,v36:=zeroValue47,i36:=by kernel_rfl,t37:=underlying126,a37:=isAgg126,z37:=sizeOf126,v37:=zeroValue126,i37:=by kernel_rfl,t39:=underlying400,a39:=isAgg400,z39:=sizeOf400,v39:=zeroValue400,i39:=by kernel_rfl,t44:=underlying407,a44:=isAgg407,z44:=sizeOf407,v44:=zeroValue407,i44:=by kernel_rfl,t47:=underlying343,a47:=isAgg343,z47:=sizeOf343,v47:=zeroValue343,i47:=by kernel_rfl,t48:=underlying408,a48:=isAgg408,z48:=sizeOf408,v48:=zeroValue408,i48:=by kernel_rfl,t50:=underlying410,a50:=isAgg410,z50:=sizeOf410,v50:=zeroValue410,i50:=by kernel_rfl,t52:=underlying369,a52:=isAgg369,z52:=sizeOf369,v52:=zeroValue369,i52:=by kernel_rfl,t55:=underlying371,a55:=isAgg371,z55:=sizeOf371,v55:=zeroValue371,i55:=by kernel_rfl,t59:=underlying389,a59:=isAgg389,z59:=sizeOf389,v59:=zeroValue389,i59:=by kernel_rfl,t60:=underlying96,a60:=isAgg96,z60:=sizeOf96,v60:=zeroValue96,i60:=by kernel_rfl,t61:=underlying390,a61:=isAgg390,z61:=sizeOf390,t65:=underlying404,a65:=isAgg404,z65:=sizeOf404,v65:=zeroValue404,i65:=by kernel_rfl,t66:=underlying405,a66:=isAgg405,z66:=sizeOf405,v66:=zeroValue405,i66:=by kernel_rfl,t67:=underlying278,a67:=isAgg278,z67:=sizeOf278,v67:=zeroValue278,i67:=by kernel_rfl,g0:=by kernel_rfl,m0:=by kernel_rfl,g1:=by kernel_rfl,m1:=by kernel_rfl,g2:=by kernel_rfl,m2:=by kernel_rfl,g3:=by kernel_rfl,m3:=by kernel_rfl,g4:=by kernel_rfl,m4:=by kernel_rfl}
def Mh(w:Y)(e:TypeId)(s:ab):Below (z<|G w) w (Lib.bytesWorld w e s):=⟨rfl,rfl,rfl,by rw[Lib.bytesWorld_size];omega,λk a=>Lib.bytesWorld_at_old w e s k<|by omega⟩
def Rb(w:Y):cw bF 247 #[J ⟨#[49]⟩,am 10,am 64] w λe a=>e=aO (dA #[aI 1,.nilIface])/\Z az w a:=by
 have h:=Any.strconv_ParseUint_10_at64_ok Un ⟨#[49]⟩ (by decide) 1 (by kernel_rfl) w;refine za h ?_;rintro e a⟨rfl,rfl|rfl⟩;exact⟨rfl,Z.refl _ _⟩;exact⟨rfl,Z.aT (S:=az)<|Mh w _ _⟩
def QV(w:Y):cw bF 285 #[J ⟨#[108,111,103,45,49]⟩,J ⟨#[116,97,98,108,101,45]⟩] w λe a=>e=aO (aL bE)/\a=w:=by
 go_in
 go_wp2;go_ret;exact⟨rfl,rfl⟩
def NA(w:Y):cw bF 285 #[J ⟨#[108,111,103,45,49]⟩,J ⟨#[108,111,103,45]⟩] w λe a=>e=aO (aL bU)/\a=w:=by
 go_in
 go_wp2;go_ret;refine⟨?_,rfl⟩;kernel_rfl
def Ww(w:Y):cw bF 246 #[J ⟨#[108,111,103,45,49]⟩,J ⟨#[116,97,98,108,101,45]⟩] w λe b=>e=aO (dA #[J ⟨#[108,111,103,45,49]⟩,aL bE])/\b=w:=by
 have a:=QV w;have d:cw bF 273 #[J ⟨#[108,111,103,45,49]⟩,J ⟨#[116,97,98,108,101,45]⟩] w λe b=>e=aO (dA #[J ⟨#[108,111,103,45,49]⟩,aL bE])/\b=w:=by(go_in);(go_wp2_with(go_at_call 285;refine a.mono ?_;rintro e c⟨rfl,f⟩;subst c));(go_ret2);exact⟨rfl,rfl⟩
 go_in
 go_wp2_with(go_at_call 273;refine d.mono ?_;rintro e c⟨rfl,f⟩;subst c)
 go_ret2
 exact⟨rfl,rfl⟩
def Va(w:Y):cw bF 246 #[J ⟨#[108,111,103,45,49]⟩,J ⟨#[108,111,103,45]⟩] w λe b=>e=aO (dA #[J ⟨#[49]⟩,aL bU])/\b=w:=by
 have a:=NA w;have d:cw bF 273 #[J ⟨#[108,111,103,45,49]⟩,J ⟨#[108,111,103,45]⟩] w λe b=>e=aO (dA #[J ⟨#[49]⟩,aL bU])/\b=w:=by(go_in);(go_wp2_with(go_at_call 285;refine a.mono ?_;rintro e c⟨rfl,f⟩;subst c));(go_ret2);refine⟨?_,rfl⟩;kernel_rfl
 go_in
 go_wp2_with(go_at_call 273;refine d.mono ?_;rintro e c⟨rfl,f⟩;subst c)
 go_ret2
 exact⟨rfl,rfl⟩
def PF:EX 1=⟨#[49]⟩:=by
 unfold EX;rw[Lib.decDigits];simp
def NG(m:Pow a):cw bF 207 #[J ⟨#[108,111,103,45,49]⟩] a λj p=>j=aO (dA #[aI 1,aL bU])/\Z az a p:=by
 have e:=Rb a;have b:=λW(h:Z az a W)=>th 1 (by omega)<|Pow.ar m h id;rw[PF]at b;clear m;have l:=Ww a;have n:=Va a;go_in
 go_wp2_with fail
 apply l.mono;rintro j f⟨rfl,o⟩;subst f;go_wp2_with fail
 apply n.mono;rintro j f⟨rfl,o⟩;subst f;go_wp2_with fail
 apply e.mono;rintro j f⟨rfl,c⟩;have k:=b f c;have g:=U c;clear c b e l n;go_wp2_with fail
 apply k.mono;rintro j q⟨rfl,d⟩;have i:=U<|g.ci<|Z.aT (S:=az) d;clear d k;go_wp2;go_ret2
 exact⟨rfl,i⟩
end
section
open Go.Shelf
def IT:Go.Shelf.Ren:=⟨λ|25=>162|n=>n,λ|9=>9|3=>3|4=>4|37=>126|0=>0|47=>343|5=>5|n=>n,λ|n=>n⟩
def Um:Go.Proofs.LaysPu.n25 bF IT:={mixed:=by kernel_rfl,f25:=func162.trans (bS H<|by kernel_rfl),t0:=underlying0,a0:=isAgg0,z0:=sizeOf0,v0:=zeroValue0,i0:=by kernel_rfl,t3:=underlying3,a3:=isAgg3,z3:=sizeOf3,v3:=zeroValue3,i3:=by kernel_rfl,t4:=underlying4,a4:=isAgg4,z4:=sizeOf4,v4:=zeroValue4,i4:=by kernel_rfl,t5:=underlying5,a5:=isAgg5,z5:=sizeOf5,v5:=zeroValue5,i5:=by kernel_rfl,t9:=underlying9,a9:=isAgg9,z9:=sizeOf9,v9:=zeroValue9,i9:=by kernel_rfl,t37:=underlying126,a37:=isAgg126,z37:=sizeOf126,v37:=zeroValue126,i37:=by kernel_rfl,t47:=underlying343,a47:=isAgg343,z47:=sizeOf343,v47:=zeroValue343,i47:=by kernel_rfl}
def vk(s:ab)(w:Y)(f:s.size<=281474976710656):cw bF 104 #[J s] w λe a=>e=aO (J s)/\Below (z<|G w) w a:=by
 have h:=AnyPu.stringslite_Clone Um s w f;have d:cw bF 162 #[J s] w λe a=>e=aO (J s)/\Below (z<|G w) w a:=h;clear h;go_in
 go_wp2_with fail
 apply d.mono;rintro e g⟨rfl,b⟩;have c:=U b;clear b;go_wp2;go_ret;exact⟨rfl,c⟩
end
section
open Go.Shelf
def Lt:Go.Shelf.Ren:=⟨λ|190=>153|125=>192|258=>215|128=>239|129=>240|302=>251|303=>252|304=>253|305=>254|306=>255|307=>256|308=>257|309=>258|310=>259|333=>277|329=>264|330=>265|334=>278|335=>279|336=>280|344=>292|n=>n,λ|31=>192|9=>9|3=>3|46=>47|0=>0|51=>96|53=>103|4=>4|183=>357|182=>356|131=>362|5=>5|218=>383|222=>386|228=>396|229=>60|n=>n,λ|n=>n⟩
def Tryz.lays190:Go.Proofs.Lays.n190 bF Lt:={mixed:=by kernel_rfl,f125:=func192.trans (bS H<|by kernel_rfl),f128:=func239.trans (bS H<|by kernel_rfl),f129:=func240.trans (bS H<|by kernel_rfl),f190:=func153.trans (bS H<|by kernel_rfl),f258:=func215.trans (bS H<|by kernel_rfl),f302:=func251.trans (bS H<|by kernel_rfl),f303:=func252.trans (bS H<|by kernel_rfl),f304:=func253.trans (bS H<|by kernel_rfl),f305:=func254.trans (bS H<|by kernel_rfl),f306:=func255.trans (bS H<|by kernel_rfl),f307:=func256.trans (bS H<|by kernel_rfl),f308:=func257.trans (bS H<|by kernel_rfl),f309:=func258.trans (bS H<|by kernel_rfl),f310:=func259.trans (bS H<|by kernel_rfl),f329:=func264.trans (bS H<|by kernel_rfl),f330:=func265.trans (bS H<|by kernel_rfl),f333:=func277.trans (bS H<|by kernel_rfl),f334:=func278.trans (bS H<|by kernel_rfl),f335:=func279.trans (bS H<|by kernel_rfl),f336:=func280.trans (bS H<|by kernel_rfl),f344:=func292.trans (bS H<|by kernel_rfl),t0:=underlying0,a0:=isAgg0,z0:=sizeOf0,v0:=zeroValue0,t3:=underlying3,a3:=isAgg3,z3:=sizeOf3,v3:=zeroValue3,t4:=underlying4,a4:=isAgg4,z4:=sizeOf4,v4:=zeroValue4,t5:=underlying5,a5:=isAgg5,z5:=sizeOf5,v5:=zeroValue5,t9:=underlying9,a9:=isAgg9,z9:=sizeOf9,v9:=zeroValue9,t31:=underlying192,a31:=isAgg192,z31:=sizeOf192,v31:=zeroValue192,t46:=underlying47,a46:=isAgg47,z46:=sizeOf47,v46:=zeroValue47,t51:=underlying96,a51:=isAgg96,z51:=sizeOf96,v51:=zeroValue96,t53:=underlying103,a53:=isAgg103,z53:=sizeOf103,v53:=zeroValue103,t131:=underlying362,a131:=isAgg362,z131:=sizeOf362,v131:=zeroValue362,t182:=underlying356,a182:=isAgg356,z182:=sizeOf356,v182:=zeroValue356,t183:=underlying357,a183:=isAgg357,z183:=sizeOf357,v183:=zeroValue357,t218:=underlying383,a218:=isAgg383,z218:=sizeOf383,v218:=zeroValue383,t222:=underlying386,a222:=isAgg386,z222:=sizeOf386,v222:=zeroValue386,t228:=underlying396,a228:=isAgg396,z228:=sizeOf396,v228:=zeroValue396,t229:=underlying60,a229:=isAgg60,z229:=sizeOf60,v229:=zeroValue60}
def strs(a:cr ab):iV:=a.map Value.string
def IS(w:Y):cw bF 240 #[aI 0] w λe a=>e=aO (am 0)/\a=w:=by
 go_in
 go_wp2;go_ret;exact⟨by simp;kernel_rfl,rfl⟩
def NW(w:Y):cw bF 192 #[aI 0] w λe a=>e=aO (am 0)/\a=w:=by
 have h:=IS w;go_in
 go_wp2_with(go_at_call 240;refine h.mono ?_;rintro e a⟨rfl,rfl⟩)
 go_wp2;go_ret;exact⟨rfl,rfl⟩
def Ja(w:Y):cw bF 251 #[aK,am 0,am 0] w λe a=>e=aO (dA #[])/\a=w:=by
 go_in
 go_wp2;refine ld 1 ?_;rw[gZ];go_wp2;go_end0;exact⟨rfl,rfl⟩
def TK(w:Y):cw bF 215 #[aK,am 0,am 0,am 0] w λe a=>e=aO (dA #[])/\a=w:=by
 have h:=Ja w;go_in
 go_wp2;refine ld 1 ?_;rw[gZ];go_wp2_with fail
 apply h.mono;rintro e a⟨rfl,rfl⟩;go_wp2;refine cI (iQ rfl _ _ _) rfl ?_;exact⟨rfl,rfl⟩
def Qr(w:Y):cw bF 153 #[aK] w λe a=>e=aO (dA #[])/\a=w:=by
 have h:=TK w;have b:=NW w;go_in
 go_wp2_with(first|(go_at_call 192;refine b.mono ?_;rintro e a⟨rfl,rfl⟩)|(go_at_call 215;refine h.mono ?_;rintro e a⟨rfl,rfl⟩))
 go_wp2;go_end0;exact⟨rfl,rfl⟩
def Tj(c:cr ab)(Q:a.ownsRow b 9 1 d (y c) (strs c))(hn:y c<=1000000000000):cw bF 153 #[d] a λD C=>D=aO (dA #[])/\∃P:cr ab,P.Perm c/\C.ownsRow b 9 1 d (y P) (strs P)/\Z (λB=>bV d=H B) a C:=by
 rcases Q.2 with⟨rfl,h0⟩|⟨u,t,h,rfl,E,v,O,F,K,q⟩;apply(Qr a).mono;rintro D C⟨rfl,rfl⟩;exact⟨rfl,c,np _,Q,Z.refl _ _⟩;obtain⟨k,p⟩:∃k,c.map (λT=>T.data.toList)=k:=⟨_,rfl⟩;(have o:y k=y c:=by rw[<-p,cV]);(have e:∀j(l:j<y c),h[j]?=H (J c[j]):=by intro j l;(have s:(h.toList.take<|y c*1)[j]?=(strs c)[j]?:=by rw[q]);rw[rf,lN l]at s;rw[<-wG,s];simp[strs,l]);(have V:Go.Sort.Holds encStr a u 0 k.toArray:=by intro j l;(have w:j<y c:=by simpa[o]using l);(have L:j<y k:=by omega);refine⟨?_,by simp[World.frozen?,v]⟩;rw[cR,bR v,e j w];(have:k.toArray[j]! =c[j].data.toList:=by rw[getElem!_pos _ j<|by simpa using L];simp[<-p]);rw[this]);have W:=Any.slices_Sort_string Tryz.lays190 u 0 t k a V (aj v) (by omega);rw[o]at W;apply W.mono;rintro D C⟨rfl,ac,A,rfl⟩;obtain⟨g,x⟩:∃g,k.mergeSort (λc a=>decide<|c<=a)=g:=⟨_,rfl⟩;(have f:g.Perm k:=by rw[<-x];exact List.mergeSort_perm _ _);rw[x];(have r:y g=y c:=by rw[f.length_eq,o]);(have m:(Go.Sort.grow (Go.Sort.putRow encStr (Go.Sort.ahead a ac) u 0 g.toArray) A).heap[u]?=H (aq (Go.Sort.putCells encStr 0 g.toArray h) 9 (0,0)):=by show((a.heap.modify u _)++A)[u]?=_;rw[ny (by simp;exact aj v),qy,dw rfl,v];rfl);(have i:∀B,B<z (G a)->B≠u->(Go.Sort.grow (Go.Sort.putRow encStr (Go.Sort.ahead a ac) u 0 g.toArray) A).heap[B]?=a.heap[B]?:=by intro B N n;show((a.heap.modify u _)++A)[B]?=_;rw[ny (by simp;exact N),qy,cY<|λD=>n D.symm]);refine⟨rfl,g.map<|λS=>⟨S.toArray⟩,?_,⟨by simp[strs],.inr ⟨u,t,_,by rw[cV,r],E,m,by rw[cV,r];exact O,F,by simpa[Go.Sort.putCells]using K,?_⟩⟩,rfl,rfl,rfl,?_,?_⟩;have s:=f.map (λS:cr UInt8=>(⟨S.toArray⟩:ab));rw[<-p,iR]at s;(have w:c.map ((λS:cr UInt8=>(⟨S.toArray⟩:ab))∘λT=>T.data.toList)=c:=by(conv=>rhs;rw[<-List.map_id c]);apply nU;intro T _;simp);rw[w]at s;exact s;apply pO;intro j;rw[cV,r,rf];by_cases l:j<y c;rw[lN l];(have w:j<y g:=by omega);(have:(Go.Sort.putCells encStr 0 g.toArray h).toList[j]?=H (J ⟨g[j].toArray⟩):=by rw[wG];unfold Go.Sort.putCells;rw[Array.getElem?_mapIdx,e j l];simp[w,encStr]);rw[this];simp[strs,w];rw[List.getElem?_take_eq_none (by omega),dq (by simp[strs];omega)];show z (G a)<=((a.heap.modify u _)++A).size;simp;intro B N n;exact i B N<|λD=>n (by rw[D];rfl)
end
