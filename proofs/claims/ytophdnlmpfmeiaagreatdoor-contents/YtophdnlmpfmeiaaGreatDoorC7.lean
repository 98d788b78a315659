import Derived.BigCall
import Derived.BigGuard
import Derived.CellFam
import Derived.Ground.MpProg
import Derived.Ground.NamesProg
import Derived.Lib.AppendIntMem
import Derived.Lib.Hide
import Derived.Lib.ItoaLen
import Derived.Lib.ItoaMem
import Derived.Lib.ItoaWalk
import Derived.Lib.Walk
import Derived.Shelf.Pu.Clone
import Derived.Shelf.Pu.ParseUintPublic10
import Derived.Shelf.Sort.Plain
import Derived.Shelf.Strconv.Itoa1
import Derived.Shelf.Strconv.Itoa2
import Derived.Test.YtophdnlmpfmeiaaGreatDoorC1
namespace Go.Proofs.YtophdnlmpfmeiaaGreatDoor
open ChangeShapes WideShapes RowKit Proofs.Tryz
set_option maxHeartbeats 16000000
set_option linter.all false
set_option maxRecDepth 100000
section
open Go.Shelf
def DW:Go.Shelf.Ren:=⟨λ|283=>208|n=>n,λ|3=>3|9=>9|4=>4|n=>n,λ|n=>n⟩
def Tryz.lays283:Go.Proofs.Lays.n283 prog DW:={mixed:=by kernel_rfl,f283:=func208.trans (bB some (by kernel_rfl)),t3:=underlying3,a3:=isAgg3,z3:=sizeOf3,v3:=zeroValue3,t4:=underlying4,a4:=isAgg4,z4:=sizeOf4,v4:=zeroValue4,t9:=underlying9,a9:=isAgg9,z9:=sizeOf9,v9:=zeroValue9}
def DV:Go.Shelf.Ren:=⟨λ|284=>209|129=>227|317=>234|318=>235|n=>n,λ|53=>103|3=>3|212=>356|0=>0|4=>4|46=>47|5=>5|9=>9|n=>n,λ|17=>3|n=>n⟩
def Tryz.lays284:Go.Proofs.LaysM.n284 prog DV:={mixed:=by kernel_rfl,f129:=func227.trans (bB some (by kernel_rfl)),f284:=func209.trans (bB some (by kernel_rfl)),f317:=func234.trans (bB some (by kernel_rfl)),f318:=func235.trans (bB some (by kernel_rfl)),t0:=underlying0,a0:=isAgg0,z0:=sizeOf0,v0:=zeroValue0,t3:=underlying3,a3:=isAgg3,z3:=sizeOf3,v3:=zeroValue3,t4:=underlying4,a4:=isAgg4,z4:=sizeOf4,v4:=zeroValue4,t5:=underlying5,a5:=isAgg5,z5:=sizeOf5,v5:=zeroValue5,t9:=underlying9,a9:=isAgg9,z9:=sizeOf9,v9:=zeroValue9,t46:=underlying47,a46:=isAgg47,z46:=sizeOf47,v46:=zeroValue47,t53:=underlying103,a53:=isAgg103,z53:=sizeOf103,v53:=zeroValue103,t212:=underlying356,a212:=isAgg356,z212:=sizeOf356,v212:=zeroValue356,g17:=by kernel_rfl,i0:=by kernel_rfl,i3:=by kernel_rfl,i4:=by kernel_rfl,i5:=by kernel_rfl,i9:=by kernel_rfl,i46:=by kernel_rfl,i53:=by kernel_rfl,i212:=by kernel_rfl,m17:=by kernel_rfl}
def DU:Go.Shelf.Ren:=⟨λ|285=>210|n=>n,λ|37=>119|53=>103|3=>3|4=>4|51=>96|9=>9|5=>5|0=>0|n=>n,λ|n=>n⟩
def Tryz.lays285:Go.Proofs.Lays.n285 prog DU:={mixed:=by kernel_rfl,f285:=func210.trans (bB some (by kernel_rfl)),t0:=underlying0,a0:=isAgg0,z0:=sizeOf0,v0:=zeroValue0,t3:=underlying3,a3:=isAgg3,z3:=sizeOf3,v3:=zeroValue3,t4:=underlying4,a4:=isAgg4,z4:=sizeOf4,v4:=zeroValue4,t5:=underlying5,a5:=isAgg5,z5:=sizeOf5,v5:=zeroValue5,t9:=underlying9,a9:=isAgg9,z9:=sizeOf9,v9:=zeroValue9,t37:=underlying119,a37:=isAgg119,z37:=sizeOf119,v37:=zeroValue119,t51:=underlying96,a51:=isAgg96,z51:=sizeOf96,v51:=zeroValue96,t53:=underlying103,a53:=isAgg103,z53:=sizeOf103,v53:=zeroValue103}
end
section
open Go.Shelf Go.Sort
def Pow(w:J):Prop:=Lib.TabIs prog w "internal/strconv.uint64pow10" .u64 Lib.pow10Tab
def Dx:prog.globalNamed "internal/strconv.uint64pow10" =some 3:=by kernel_rfl
def Pow.dh{w w':J}(h:Pow w)(a:w'.heap[3]?=w.heap[3]?):Pow w':=by
 unfold Pow Lib.TabIs World.var? at*;rw[Dx]at*;simp only[qu]at*;rw[a];exact h
def Pow.lt{w:J}(h:Pow w):3<w.heap.size:=by
 unfold Pow Lib.TabIs World.var? at h;rw[Dx]at h;simp only[qu]at h;rcases cJ 3 w.heap.size with a|a
 ·exact a
 ·rw[dy a]at h;simp at h
def Pow.ay{S:Nat->Prop}{w w':J}(h:Pow w)(d:I S w w')(a:¬S 3):Pow w':=h.dh (d.block _ h.lt a)
def wu(u:Nat):aa:=⟨(Lib.decDigits u).toArray⟩
def Al(u:Nat)(b:u<18446744073709551616)(w:J)(r:Pow w):Calls prog 174 #[.int .u64 u,.int .i64 10] w λi c=>i=.returned (.string (wu u))/\Below w.heap.size w c:=by
 by_cases h:u<100
 ·have a:∀W,Calls prog 208 #[.int .i64 u] W λi c=>i=.returned (.string (wu u))/\c=W:=λW=>Any.internal_strconv_small Tryz.lays283 u h W;have d:(u:Int)<100:=by omega
  have e:IntKind.i64.wrap (u:Int)=(u:Int):=by rw[bu];omega
  clear r;go_enter func174,ntmps174
  go_wp2_with(go_at_call 208;refine(a _).mono ?_;rintro i c⟨rfl,rfl⟩)
  go_ret;exact⟨rfl,Below.refl _ _⟩
 ·have m:1<=u:=by omega
  have q:Lib.nDigits u<=20:=by have:=Lib.numDigits_eq u m b;split at this<;>omega
  have f:prog.arrayLen 332=24:=by kernel_rfl
  have y:∀W,(Instr.sliceAt 332 (.pointer (some ⟨w.heap.size,0,none⟩)) none (some (.int .i64 (Lib.nDigits u:Int))) none).run prog W=.ok (.slice (some ⟨w.heap.size,0,none⟩) (Lib.nDigits u) 24) W:=λW=>by
   rw[run_sliceAt_array_h W 332 ⟨w.heap.size,0,none⟩ (by kernel_rfl) .i64 (Lib.nDigits u:Int) (by omega) (by rw[f];omega)];rw[f];have p:(sizeOf (prog.elem 332)).run prog W=.ok 1 W:=by kernel_rfl
   rw[p];simp[Result.andThen,slicedAt,Lib.add_plain]
  have e:=Lib.holds_zero0 w 332 (Lib.nDigits u) (by omega);have j:Calls prog 210 #[.slice (some ⟨w.heap.size,0,none⟩) (Lib.nDigits u) 24,.int .u64 u] (w.alloc (.cells Lib.zeros24 332)) λi c=>
   i=.returned (.tuple #[])/\(∃(z:Nat)(a:Array UInt8),c=(putRow (λ(h:UInt8)=>Value.int .u8 (h.toNat:Int)) (w.alloc (.cells Lib.zeros24 332)) w.heap.size 0 a).drewN z/\∃g,Lib.FmtInv (Lib.nDigits u) u 0 g a):=by
    have:=Any.internal_strconv_formatBase10 Tryz.lays285 w.heap.size 0 24 u (Array.replicate (Lib.nDigits u) 0) (w.alloc (.cells Lib.zeros24 332)) e (by rw[kh];exact Lib.lt_pow_nDigits u) b (by rw[kh];omega);rw[kh]at this;refine this.mono ?_;rintro i c⟨p,z,g,a,t,v⟩;exact⟨p,z,a,t,g,v⟩
  have k:∀W,Pow W->Calls prog 209 #[.int .u64 u] W λi c=>i=.returned (.int .i64 (Lib.nDigits u))/\c=W:=λW a=>Any.internal_strconv_numDigits Tryz.lays284 u m b W a;have l:=k (w.alloc (.cells Lib.zeros24 332)) (Lib.tabIs_alloc r _);have o:=Z e;have A:(100:Int)<=(u:Int):=by omega
  have d:=Z (show∀(n:Nat)(a:Array UInt8),(∃g,Lib.FmtInv (Lib.nDigits u) u 0 g a)->(convert 119 9 (.slice (some ⟨w.heap.size,0,none⟩) (Lib.nDigits u) 24)).run prog ((putRow (λ(h:UInt8)=>Value.int .u8 (h.toNat:Int)) (w.alloc (.cells Lib.zeros24 332)) w.heap.size 0 a).drewN n)=.ok (.string (wu u)) ((putRow (λ(h:UInt8)=>Value.int .u8 (h.toNat:Int)) (w.alloc (.cells Lib.zeros24 332)) w.heap.size 0 a).drewN n)/\Below w.heap.size w ((putRow (λ(h:UInt8)=>Value.int .u8 (h.toNat:Int)) (w.alloc (.cells Lib.zeros24 332)) w.heap.size 0 a).drewN n)from by
   rintro n a⟨g,hF⟩;constructor
   ·have t:=rh (P:=prog) ((putRow (λ(h:UInt8)=>Value.int .u8 (h.toNat:Int)) (w.alloc (.cells Lib.zeros24 332)) w.heap.size 0 a).drewN n) 119 9 5 ⟨w.heap.size,0,none⟩ 24 (Lib.decDigits u) (by kernel_rfl) (by kernel_rfl) (by kernel_rfl) (λv p=>by
     rw[Lib.row_is_numeral hF v p,Lib.add_plain,World.cell?_drewN];exact cell?_putRow (λ(h:UInt8)=>Value.int .u8 (h.toNat:Int)) _ w.heap.size 0 _ a (Y o) (by rw[hF.size,kh]) v (by rw[hF.size];rw[Lib.decDigits_length]at p;exact p))
    rw[Lib.decDigits_length]at t;exact t
   ·obtain⟨t,p⟩:=Lib.fin_at w (.cells Lib.zeros24 332) a n 0;rw[p];exact Lib.below_grow _ w (ai _) n t)
  clear e f k r;unfold Lib.zeros24 at*;go_enter func174,ntmps174
  go_wp2_with(first
   |(go_at_call 209;refine l.mono ?_;rintro i B⟨rfl,rfl⟩)
   |(go_at_call 210;refine j.mono ?_;rintro i C⟨rfl,n,a,rfl,hF⟩;have x:=((Y d) n a hF).1;have s:=Z ((Y d) n a hF).2;clear hF))
  go_ret;exact⟨rfl,Y s⟩
def po(u:Nat)(a:u<18446744073709551616)(w:J)(c:Pow w):Calls prog 118 #[.int .u64 u,.int .i64 10] w λf e=>f=.returned (.string (wu u))/\Below w.heap.size w e:=by
 have h:=Al u a w c;clear c;go_enter func118,ntmps118
 go_wp2_with(go_at_call 174;refine h.mono ?_;rintro f g⟨rfl,b⟩;have d:=Z b;clear b)
 go_ret;exact⟨rfl,Y d⟩
end
def Gy(l:List UInt8):Nat:=l.foldl (λa d=>a*10+(d.toNat-48)) 0
def jR(u:Nat):Gy (Lib.decDigits u)=u:=by
 induction u using Nat.strongRecOn with
 |ind u a=>
  rw[Lib.decDigits];split
  ·rename_i h;unfold Gy;simp[UInt8.toNat_ofNat'];omega
  ·rename_i h;have:=a (u/10) (by omega);unfold Gy at*;rw[fR,this];simp[UInt8.toNat_ofNat'];omega
def PG{u v:Nat}(h:wu u=wu v):u=v:=by
 have a:(Lib.decDigits u).toArray=(Lib.decDigits v).toArray:=bB ByteArray.data h;have b:Lib.decDigits u=Lib.decDigits v:=by simpa using a
 rw[<-jR u,b,jR]
def OC:aa:=⟨#[116,97,98,108,101,45]⟩
def Qc:aa:=⟨#[108,111,103,45]⟩
def eS:aa:=⟨#[115,116,97,116,101]⟩
def qI:aa:=⟨#[115,116,97,116,101,46,110,101,119]⟩
def eM(u:Nat):aa:=OC++wu u
def fM(u:Nat):aa:=Qc++wu u
def EN(a b:aa):(a++b).data.toList=a.data.toList++b.data.toList:=by simp
def pU{a b:aa}(h:a=b):a.data.toList=b.data.toList:=by rw[h]
def qE(u:Nat):(eM u).data.toList=[116,97,98,108,101,45]++Lib.decDigits u:=by unfold eM;rw[EN];rfl
def qN(u:Nat):(fM u).data.toList=[108,111,103,45]++Lib.decDigits u:=by unfold fM;rw[EN];rfl
def qF{u v:Nat}(h:eM u=eM v):u=v:=by
 have:=pU h;rw[qE,qE,oJ]at this;rw[<-jR u,this,jR]
def Pw{u v:Nat}(h:fM u=fM v):u=v:=by
 have:=pU h;rw[qN,qN,oJ]at this;rw[<-jR u,this,jR]
def jJ(u v:Nat):eM u≠fM v:=by
 intro h;have:=pU h;rw[qE,qN]at this;simp at this
def rB(u:Nat):eM u≠eS:=by
 intro h;have:=pU h;rw[qE]at this;simp[eS]at this
def ys(u:Nat):eM u≠qI:=by
 intro h;have:=pU h;rw[qE]at this;simp[qI]at this
def oo(u:Nat):fM u≠eS:=by
 intro h;have:=pU h;rw[qN]at this;simp[eS]at this
def FZ(u:Nat):fM u≠qI:=by
 intro h;have:=pU h;rw[qN]at this;simp[qI]at this
def BB:eS≠qI:=by
 intro h;have:=pU h;simp[eS,qI]at this
def Ba(u:Nat)(h:u<18446744073709551616):(wu u).size<=20:=by
 have a:(wu u).size=(Lib.decDigits u).length:=by simp[wu,ByteArray.size]
 rw[a,Lib.decDigits_length];exact Lib.nDigits_le20 u h
def vP(u:Nat)(a:u<18446744073709551616)(w:J)(d:Pow w):Calls prog 182 #[.int .u64 u] w λg f=>g=.returned (.string (eM u))/\Below w.heap.size w f:=by
 have h:=po u a w d;have j:=Ba u a;clear d;go_enter func182,ntmps182
 go_wp2_with(go_at_call 118;refine h.mono ?_;rintro g l⟨rfl,b⟩;have e:=Z b;clear b)
 go_ret;exact⟨rfl,Y e⟩
def rJ(u:Nat)(a:u<18446744073709551616)(w:J)(c:Pow w):Calls prog 75 #[.int .u64 u] w λe w'=>e=.returned (.string (fM u))/\Below w.heap.size w w':=by
 have h:=po u a w c;have f:=Ba u a;clear c;go_enter func75,ntmps75
 go_wp2_with(go_at_call 118;refine h.mono ?_;rintro e g⟨rfl,b⟩;have d:=Z b;clear b)
 go_ret;exact⟨rfl,Y d⟩
section
open Go.Shelf
def BY:Go.Shelf.Ren:=⟨λ|14=>213|16=>239|17=>240|19=>251|20=>252|21=>253|22=>254|23=>255|24=>256|25=>136|27=>259|26=>258|28=>260|29=>261|30=>208|31=>209|32=>210|33=>211|35=>227|34=>234|36=>235|37=>236|38=>237|39=>248|40=>249|n=>n,λ|9=>9|3=>3|22=>103|24=>50|25=>338|4=>4|34=>365|5=>5|36=>47|37=>119|0=>0|39=>367|21=>21|44=>375|47=>310|50=>378|48=>376|2=>2|52=>332|55=>335|59=>356|60=>96|20=>20|61=>357|65=>372|66=>373|67=>246|n=>n,λ|0=>6|1=>7|2=>3|3=>4|4=>5|n=>n⟩
def LC:Go.Proofs.LaysPu.n14 prog BY:={mixed:=by kernel_rfl,f14:=func213.trans (bB some (by kernel_rfl)),f16:=func239.trans (bB some (by kernel_rfl)),f17:=func240.trans (bB some (by kernel_rfl)),f19:=func251.trans (bB some (by kernel_rfl)),f20:=func252.trans (bB some (by kernel_rfl)),f21:=func253.trans (bB some (by kernel_rfl)),f22:=func254.trans (bB some (by kernel_rfl)),f23:=func255.trans (bB some (by kernel_rfl)),f24:=func256.trans (bB some (by kernel_rfl)),f25:=func136.trans (bB some (by kernel_rfl)),f26:=func258.trans (bB some (by kernel_rfl)),f27:=func259.trans (bB some (by kernel_rfl)),f28:=func260.trans (bB some (by kernel_rfl)),f29:=func261.trans (bB some (by kernel_rfl)),f30:=func208.trans (bB some (by kernel_rfl)),f31:=func209.trans (bB some (by kernel_rfl)),f32:=func210.trans (bB some (by kernel_rfl)),f33:=func211.trans (bB some (by kernel_rfl)),f34:=func234.trans (bB some (by kernel_rfl)),f35:=func227.trans (bB some (by kernel_rfl)),f36:=func235.trans (bB some (by kernel_rfl)),f37:=func236.trans (bB some (by kernel_rfl)),f38:=func237.trans (bB some (by kernel_rfl)),f39:=func248.trans (bB some (by kernel_rfl)),f40:=func249.trans (bB some (by kernel_rfl)),t0:=underlying0,a0:=isAgg0,z0:=sizeOf0,v0:=zeroValue0,i0:=by kernel_rfl,t2:=underlying2,a2:=isAgg2,z2:=sizeOf2,v2:=zeroValue2,i2:=by kernel_rfl,t3:=underlying3,a3:=isAgg3,z3:=sizeOf3,v3:=zeroValue3,i3:=by kernel_rfl,t4:=underlying4,a4:=isAgg4,z4:=sizeOf4,v4:=zeroValue4,i4:=by kernel_rfl,t5:=underlying5,a5:=isAgg5,z5:=sizeOf5,v5:=zeroValue5,i5:=by kernel_rfl,t9:=underlying9,a9:=isAgg9,z9:=sizeOf9,v9:=zeroValue9,i9:=by kernel_rfl,t20:=underlying20,a20:=isAgg20,z20:=sizeOf20,v20:=zeroValue20,i20:=by kernel_rfl,t21:=underlying21,a21:=isAgg21,z21:=sizeOf21,v21:=zeroValue21,i21:=by kernel_rfl,t22:=underlying103,a22:=isAgg103,z22:=sizeOf103,v22:=zeroValue103,i22:=by kernel_rfl,t24:=underlying50,a24:=isAgg50,z24:=sizeOf50,v24:=zeroValue50,i24:=by kernel_rfl,t25:=underlying338,a25:=isAgg338,z25:=sizeOf338,v25:=zeroValue338,i25:=by kernel_rfl,t34:=underlying365,a34:=isAgg365,z34:=sizeOf365,v34:=zeroValue365,i34:=by kernel_rfl,c34:=by kernel_rfl,t36:=underlying47,a36:=isAgg47,z36:=sizeOf47,v36:=zeroValue47,i36:=by kernel_rfl,t37:=underlying119,a37:=isAgg119,z37:=sizeOf119,v37:=zeroValue119,i37:=by kernel_rfl,t39:=underlying367,a39:=isAgg367,z39:=sizeOf367,v39:=zeroValue367,i39:=by kernel_rfl,t44:=underlying375,a44:=isAgg375,z44:=sizeOf375,v44:=zeroValue375,i44:=by kernel_rfl,t47:=underlying310,a47:=isAgg310,z47:=sizeOf310,v47:=zeroValue310,i47:=by kernel_rfl,t48:=underlying376,a48:=isAgg376,z48:=sizeOf376,v48:=zeroValue376,i48:=by kernel_rfl,t50:=underlying378,a50:=isAgg378,z50:=sizeOf378,v50:=zeroValue378,i50:=by kernel_rfl,t52:=underlying332,a52:=isAgg332,z52:=sizeOf332,v52:=zeroValue332,i52:=by kernel_rfl,t55:=underlying335,a55:=isAgg335,z55:=sizeOf335,v55:=zeroValue335,i55:=by kernel_rfl,t59:=underlying356,a59:=isAgg356,z59:=sizeOf356,v59:=zeroValue356,i59:=by kernel_rfl,t60:=underlying96,a60:=isAgg96,z60:=sizeOf96,v60:=zeroValue96,i60:=by kernel_rfl,t61:=underlying357,a61:=isAgg357,z61:=sizeOf357,t65:=underlying372,a65:=isAgg372,z65:=sizeOf372,v65:=zeroValue372,i65:=by kernel_rfl,t66:=underlying373,a66:=isAgg373,z66:=sizeOf373,v66:=zeroValue373,i66:=by kernel_rfl,t67:=underlying246,a67:=isAgg246,z67:=sizeOf246,v67:=zeroValue246,i67:=by kernel_rfl,g0:=by kernel_rfl,m0:=by kernel_rfl,g1:=by kernel_rfl,m1:=by kernel_rfl,g2:=by kernel_rfl,m2:=by kernel_rfl,g3:=by kernel_rfl,m3:=by kernel_rfl,g4:=by kernel_rfl,m4:=by kernel_rfl}
def EE(w:J)(e:TypeId)(s:aa):Below w.heap.size w (Lib.bytesWorld w e s):=⟨rfl,rfl,rfl,by rw[Lib.bytesWorld_size];omega,λk a=>Lib.bytesWorld_at_old w e s k (by omega)⟩
def IP(w:J):Calls prog 213 #[.string ⟨#[49]⟩,.int .i64 10,.int .i64 64] w λe a=>e=.returned (.tuple #[.int .u64 1,.nilIface])/\I (λ_=>False) w a:=by
 have h:=Any.strconv_ParseUint_10_at64_ok LC ⟨#[49]⟩ (by decide) 1 (by kernel_rfl) w;refine ue h ?_;rintro e a⟨rfl,rfl|rfl⟩
 ·exact⟨rfl,I.refl _ _⟩
 ·exact⟨rfl,I.aR (S:=λ_=>False) (EE w _ _)⟩
def IL(w:J):Calls prog 250 #[.string ⟨#[108,111,103,45,49]⟩,.string ⟨#[116,97,98,108,101,45]⟩] w λe a=>e=.returned (.bool false)/\a=w:=by
 go_enter func250,ntmps250
 go_wp2;go_ret;exact⟨rfl,rfl⟩
def FK(w:J):Calls prog 250 #[.string ⟨#[108,111,103,45,49]⟩,.string ⟨#[108,111,103,45]⟩] w λe a=>e=.returned (.bool true)/\a=w:=by
 go_enter func250,ntmps250
 go_wp2;go_ret;refine⟨?_,rfl⟩;kernel_rfl
def NI(w:J):Calls prog 212 #[.string ⟨#[108,111,103,45,49]⟩,.string ⟨#[116,97,98,108,101,45]⟩] w λe b=>e=.returned (.tuple #[.string ⟨#[108,111,103,45,49]⟩,.bool false])/\b=w:=by
 have a:=IL w;have d:Calls prog 238 #[.string ⟨#[108,111,103,45,49]⟩,.string ⟨#[116,97,98,108,101,45]⟩] w λe b=>e=.returned (.tuple #[.string ⟨#[108,111,103,45,49]⟩,.bool false])/\b=w:=by
  go_enter func238,ntmps238
  go_wp2_with(go_at_call 250;refine a.mono ?_;rintro e c⟨rfl,f⟩;subst c)
  go_ret2
  exact⟨rfl,rfl⟩
 go_enter func212,ntmps212
 go_wp2_with(go_at_call 238;refine d.mono ?_;rintro e c⟨rfl,f⟩;subst c)
 go_ret2
 exact⟨rfl,rfl⟩
def Mt(w:J):Calls prog 212 #[.string ⟨#[108,111,103,45,49]⟩,.string ⟨#[108,111,103,45]⟩] w λe b=>e=.returned (.tuple #[.string ⟨#[49]⟩,.bool true])/\b=w:=by
 have a:=FK w;have d:Calls prog 238 #[.string ⟨#[108,111,103,45,49]⟩,.string ⟨#[108,111,103,45]⟩] w λe b=>e=.returned (.tuple #[.string ⟨#[49]⟩,.bool true])/\b=w:=by
  go_enter func238,ntmps238
  go_wp2_with(go_at_call 250;refine a.mono ?_;rintro e c⟨rfl,f⟩;subst c)
  go_ret2
  refine⟨?_,rfl⟩;kernel_rfl
 go_enter func212,ntmps212
 go_wp2_with(go_at_call 238;refine d.mono ?_;rintro e c⟨rfl,f⟩;subst c)
 go_ret2
 exact⟨rfl,rfl⟩
def Ho:wu 1=⟨#[49]⟩:=by
 unfold wu;rw[Lib.decDigits];simp
def FT(w:J)(l:Pow w):Calls prog 175 #[.string ⟨#[108,111,103,45,49]⟩] w λh o=>h=.returned (.tuple #[.int .u64 1,.bool true])/\I (λ_=>False) w o:=by
 have d:=IP w;have a:=λW(h:I (λ_=>False) w W)=>po 1 (by omega) W (Pow.ay l h id);rw[Ho]at a;clear l;have k:=NI w;have m:=Mt w;go_enter func175,ntmps175
 go_wp2_with fail
 refine k.mono ?_;rintro h e⟨rfl,n⟩;subst e;go_wp2_with fail
 refine m.mono ?_;rintro h e⟨rfl,n⟩;subst e;go_wp2_with fail
 refine d.mono ?_;rintro h e⟨rfl,b⟩;have j:=a e b;have f:=Z b;clear b a d k m;go_wp2_with fail
 refine j.mono ?_;rintro h p⟨rfl,c⟩;have g:=Z ((Y f).trans (I.aR (S:=λ_=>False) c) (λ_ a=>a.elim));clear c j;go_wp2;go_ret2
 exact⟨rfl,Y g⟩
end
section
open Go.Shelf
def BX:Go.Shelf.Ren:=⟨λ|25=>136|n=>n,λ|9=>9|3=>3|4=>4|37=>119|0=>0|47=>310|5=>5|n=>n,λ|n=>n⟩
def LB:Go.Proofs.LaysPu.n25 prog BX:={mixed:=by kernel_rfl,f25:=func136.trans (bB some (by kernel_rfl)),t0:=underlying0,a0:=isAgg0,z0:=sizeOf0,v0:=zeroValue0,i0:=by kernel_rfl,t3:=underlying3,a3:=isAgg3,z3:=sizeOf3,v3:=zeroValue3,i3:=by kernel_rfl,t4:=underlying4,a4:=isAgg4,z4:=sizeOf4,v4:=zeroValue4,i4:=by kernel_rfl,t5:=underlying5,a5:=isAgg5,z5:=sizeOf5,v5:=zeroValue5,i5:=by kernel_rfl,t9:=underlying9,a9:=isAgg9,z9:=sizeOf9,v9:=zeroValue9,i9:=by kernel_rfl,t37:=underlying119,a37:=isAgg119,z37:=sizeOf119,v37:=zeroValue119,i37:=by kernel_rfl,t47:=underlying310,a47:=isAgg310,z47:=sizeOf310,v47:=zeroValue310,i47:=by kernel_rfl}
def qY(s:aa)(w:J)(f:s.size<=281474976710656):Calls prog 88 #[.string s] w λe a=>e=.returned (.string s)/\Below w.heap.size w a:=by
 have h:=AnyPu.stringslite_Clone LB s w f;have d:Calls prog 136 #[.string s] w λe a=>e=.returned (.string s)/\Below w.heap.size w a:=h;clear h;go_enter func88,ntmps88
 go_wp2_with fail
 refine d.mono ?_;rintro e g⟨rfl,b⟩;have c:=Z b;clear b;go_wp2;go_ret;exact⟨rfl,Y c⟩
end
section
open Go.Shelf
def DX:Go.Shelf.Ren:=⟨λ|190=>125|125=>185|258=>184|128=>226|129=>227|302=>217|303=>218|304=>219|305=>220|306=>221|307=>222|308=>223|309=>224|310=>225|333=>242|329=>243|330=>244|334=>245|335=>246|336=>247|344=>257|n=>n,λ|31=>160|9=>9|3=>3|46=>47|0=>0|51=>96|53=>103|4=>4|183=>345|182=>344|131=>204|5=>5|218=>360|222=>363|228=>370|229=>60|n=>n,λ|n=>n⟩
def Tryz.lays190:Go.Proofs.Lays.n190 prog DX:={mixed:=by kernel_rfl,f125:=func185.trans (bB some (by kernel_rfl)),f128:=func226.trans (bB some (by kernel_rfl)),f129:=func227.trans (bB some (by kernel_rfl)),f190:=func125.trans (bB some (by kernel_rfl)),f258:=func184.trans (bB some (by kernel_rfl)),f302:=func217.trans (bB some (by kernel_rfl)),f303:=func218.trans (bB some (by kernel_rfl)),f304:=func219.trans (bB some (by kernel_rfl)),f305:=func220.trans (bB some (by kernel_rfl)),f306:=func221.trans (bB some (by kernel_rfl)),f307:=func222.trans (bB some (by kernel_rfl)),f308:=func223.trans (bB some (by kernel_rfl)),f309:=func224.trans (bB some (by kernel_rfl)),f310:=func225.trans (bB some (by kernel_rfl)),f329:=func243.trans (bB some (by kernel_rfl)),f330:=func244.trans (bB some (by kernel_rfl)),f333:=func242.trans (bB some (by kernel_rfl)),f334:=func245.trans (bB some (by kernel_rfl)),f335:=func246.trans (bB some (by kernel_rfl)),f336:=func247.trans (bB some (by kernel_rfl)),f344:=func257.trans (bB some (by kernel_rfl)),t0:=underlying0,a0:=isAgg0,z0:=sizeOf0,v0:=zeroValue0,t3:=underlying3,a3:=isAgg3,z3:=sizeOf3,v3:=zeroValue3,t4:=underlying4,a4:=isAgg4,z4:=sizeOf4,v4:=zeroValue4,t5:=underlying5,a5:=isAgg5,z5:=sizeOf5,v5:=zeroValue5,t9:=underlying9,a9:=isAgg9,z9:=sizeOf9,v9:=zeroValue9,t31:=underlying160,a31:=isAgg160,z31:=sizeOf160,v31:=zeroValue160,t46:=underlying47,a46:=isAgg47,z46:=sizeOf47,v46:=zeroValue47,t51:=underlying96,a51:=isAgg96,z51:=sizeOf96,v51:=zeroValue96,t53:=underlying103,a53:=isAgg103,z53:=sizeOf103,v53:=zeroValue103,t131:=underlying204,a131:=isAgg204,z131:=sizeOf204,v131:=zeroValue204,t182:=underlying344,a182:=isAgg344,z182:=sizeOf344,v182:=zeroValue344,t183:=underlying345,a183:=isAgg345,z183:=sizeOf345,v183:=zeroValue345,t218:=underlying360,a218:=isAgg360,z218:=sizeOf360,v218:=zeroValue360,t222:=underlying363,a222:=isAgg363,z222:=sizeOf363,v222:=zeroValue363,t228:=underlying370,a228:=isAgg370,z228:=sizeOf370,v228:=zeroValue370,t229:=underlying60,a229:=isAgg60,z229:=sizeOf60,v229:=zeroValue60}
def strs(a:List aa):List M:=a.map Value.string
def BW(w:J):Calls prog 227 #[.int .u64 0] w λe a=>e=.returned (.int .i64 0)/\a=w:=by
 go_enter func227,ntmps227
 go_wp2;go_ret;exact⟨by simp;kernel_rfl,rfl⟩
def Ga(w:J):Calls prog 185 #[.int .u64 0] w λe a=>e=.returned (.int .i64 0)/\a=w:=by
 have h:=BW w;go_enter func185,ntmps185
 go_wp2_with(go_at_call 227;refine h.mono ?_;rintro e a⟨rfl,rfl⟩)
 go_wp2;go_ret;exact⟨rfl,rfl⟩
def Cb(w:J):Calls prog 217 #[.slice none 0 0,.int .i64 0,.int .i64 0] w λe a=>e=.returned (.tuple #[])/\a=w:=by
 go_enter func217,ntmps217
 go_wp2;refine jZ 1 ?_;rw[fP];go_wp2;go_end0;exact⟨rfl,rfl⟩
def Lf(w:J):Calls prog 184 #[.slice none 0 0,.int .i64 0,.int .i64 0,.int .i64 0] w λe a=>e=.returned (.tuple #[])/\a=w:=by
 have h:=Cb w;go_enter func184,ntmps184
 go_wp2;refine jZ 1 ?_;rw[fP];go_wp2_with fail
 refine h.mono ?_;rintro e a⟨rfl,rfl⟩;go_wp2;refine bO (jE rfl _ _ _) rfl ?_;exact⟨rfl,rfl⟩
def Im(w:J):Calls prog 125 #[.slice none 0 0] w λe a=>e=.returned (.tuple #[])/\a=w:=by
 have h:=Lf w;have b:=Ga w;go_enter func125,ntmps125
 go_wp2_with(first|(go_at_call 185;refine b.mono ?_;rintro e a⟨rfl,rfl⟩)|(go_at_call 184;refine h.mono ?_;rintro e a⟨rfl,rfl⟩))
 go_wp2;go_end0;exact⟨rfl,rfl⟩
def Qo(s:aa):Value.string ⟨s.data.toList.toArray⟩=.string s:=by simp
def KB(w:J)(base:Nat)(N:M)(a:List aa)(H:w.ownsRow base 9 1 N a.length (strs a))(T:a.length<=1000000000000):Calls prog 125 #[N] w λz y=>z=.returned (.tuple #[])/\∃G:List aa,G.Perm a/\y.ownsRow base 9 1 N G.length (strs G)/\I (λx=>N.ownBlock=some x) w y:=by
 rcases H.2 with⟨rfl,R⟩|⟨r,q,e,rfl,A,s,F,B,C,n⟩
 ·refine(Im w).mono ?_;rintro z y⟨rfl,rfl⟩;exact⟨rfl,a,sF _,H,I.refl _ _⟩
 ·obtain⟨g,m⟩:∃g,a.map (λL=>L.data.toList)=g:=⟨_,rfl⟩;have l:g.length=a.length:=by rw[<-m,bW]
  have b:∀j(h:j<a.length),e[j]?=some (.string a[j]):=by
   intro j h;have p:(e.toList.take (a.length*1))[j]?=(strs a)[j]?:=by rw[n]
   rw[nw,kT h]at p;rw[<-sg,p];simp[strs,h]
  have O:Go.Sort.Holds encStr w r 0 g.toArray:=by
   intro j h;have t:j<a.length:=by simpa[l]using h
   have D:j<g.length:=by omega
   refine⟨?_,by simp[World.frozen?,s]⟩;rw[cw,aj s,b j t];have:g.toArray[j]! =a[j].data.toList:=by
    rw[getElem!_pos _ j (by simpa using D)];simp[<-m]
   rw[this]
  have P:=Any.slices_Sort_string Tryz.lays190 r 0 q g w O (ak s) (by omega);rw[l]at P;refine P.mono ?_;rintro z y⟨rfl,Q,v,rfl⟩;obtain⟨d,u⟩:∃d,g.mergeSort (λx y=>decide (x<=y))=d:=⟨_,rfl⟩;have c:d.Perm g:=by rw[<-u];exact List.mergeSort_perm _ _
  rw[u];have o:d.length=a.length:=by rw[c.length_eq,l]
  have i:(Go.Sort.grow (Go.Sort.putRow encStr (Go.Sort.ahead w Q) r 0 d.toArray) v).heap[r]?=some (.cells (Go.Sort.putCells encStr 0 d.toArray e) 9 (0,0)):=by
   show((w.heap.modify r _)++v)[r]?=_;rw[kj (by simp;exact ak s),mO,dr rfl,s];rfl
  have f:∀x,x<w.heap.size->x≠r->(Go.Sort.grow (Go.Sort.putRow encStr (Go.Sort.ahead w Q) r 0 d.toArray) v).heap[x]?=w.heap[x]?:=by
   intro x E k;show((w.heap.modify r _)++v)[x]?=_;rw[kj (by simp;exact E),mO,dd (λz=>k z.symm)]
  refine⟨rfl,d.map (λK=>⟨K.toArray⟩),?_,⟨by simp[strs],.inr ⟨r,q,_,by rw[bW,o],A,i,by rw[bW,o];exact F,B,by simpa[Go.Sort.putCells]using C,?_⟩⟩,rfl,rfl,rfl,?_,?_⟩
  ·have p:=c.map (λK:List UInt8=>(⟨K.toArray⟩:aa));rw[<-m,fY]at p;have t:a.map ((λK:List UInt8=>(⟨K.toArray⟩:aa))∘λL=>L.data.toList)=a:=by
    conv=>rhs;rw[<-List.map_id a]
    apply List.map_congr_left;intro L _;simp
   rw[t]at p;exact p
  ·apply pI;intro j;rw[bW,o,nw];by_cases h:j<a.length
   ·rw[kT h];have t:j<d.length:=by omega
    have:(Go.Sort.putCells encStr 0 d.toArray e).toList[j]?=some (.string ⟨d[j].toArray⟩):=by
     rw[sg];unfold Go.Sort.putCells;rw[Array.getElem?_mapIdx,b j h];simp[t,encStr]
    rw[this];simp[strs,t]
   ·rw[List.getElem?_take_eq_none (by omega),ci (by simp[strs];omega)]
  ·show w.heap.size<=((w.heap.modify r _)++v).size;simp
  ·intro x E k;exact f x E (λz=>k (by rw[z];rfl))
end
end Go.Proofs.YtophdnlmpfmeiaaGreatDoor
