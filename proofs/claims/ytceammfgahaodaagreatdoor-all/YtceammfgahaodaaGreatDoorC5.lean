import Derived.BigCall
import Derived.BigGuard
import Derived.CellFam
import Derived.Ground.MpProg
import Derived.Ground.NamesProg
import Derived.Lib.AppendIntMem
import Derived.Lib.Hide
import Derived.Lib.ItoaLen
import Derived.Lib.ItoaMem
import Derived.Lib.ItoaWalk
import Derived.Lib.Walk
import Derived.Shelf.Pu.Clone
import Derived.Shelf.Pu.ParseUintPublic10
import Derived.Shelf.Sort.Plain
import Derived.Shelf.Strconv.Itoa1
import Derived.Shelf.Strconv.Itoa2
import Derived.Test.YtceammfgahaodaaGreatDoorC1
open _root_ renaming List.length→z,Option.some→M,Array.size→G,Go.World.heap→H,Go.Value.ownBlock→bY,Go.World.alloc→cF,Bool.false→bF,Bool.true→bX,Nat→R,Int→Y,List→cD,Go.Calls→cA,Go.Proofs.Tryz.prog→bG,Go.Value.string→aj,Go.Value.bool→aO,Go.Value.tuple→dE
namespace Go.Proofs.YtceammfgahaodaaGreatDoor
open ChangeShapes WideShapes RowKit Proofs.Tryz
set_option maxHeartbeats 16000000
set_option linter.all false
set_option maxRecDepth 100000
variable{a:I}{b c:R}{d:aa}{v W:ab}
section
open Go.Shelf
def LR:Go.Shelf.Ren:=⟨λ|283=>241|n=>n,λ|3=>3|9=>9|4=>4|n=>n,λ|n=>n⟩
def Tryz.lays283:Go.Proofs.Lays.n283 bG LR:={mixed:=by kernel_rfl,f283:=func241.trans (bW M<|by kernel_rfl),t3:=underlying3,a3:=isAgg3,z3:=sizeOf3,v3:=zeroValue3,t4:=underlying4,a4:=isAgg4,z4:=sizeOf4,v4:=zeroValue4,t9:=underlying9,a9:=isAgg9,z9:=sizeOf9,v9:=zeroValue9}
def LQ:Go.Shelf.Ren:=⟨λ|284=>242|129=>239|317=>268|318=>269|n=>n,λ|53=>103|3=>3|212=>389|0=>0|4=>4|46=>47|5=>5|9=>9|n=>n,λ|17=>2|n=>n⟩
def Tryz.lays284:Go.Proofs.LaysM.n284 bG LQ:={mixed:=by kernel_rfl,f129:=func239.trans (bW M<|by kernel_rfl),f284:=func242.trans (bW M<|by kernel_rfl),f317:=func268.trans (bW M<|by kernel_rfl),f318:=func269.trans (bW M<|by kernel_rfl),t0:=underlying0,a0:=isAgg0,z0:=sizeOf0,v0:=zeroValue0,t3:=underlying3,a3:=isAgg3,z3:=sizeOf3,v3:=zeroValue3,t4:=underlying4,a4:=isAgg4,z4:=sizeOf4,v4:=zeroValue4,t5:=underlying5,a5:=isAgg5,z5:=sizeOf5,v5:=zeroValue5,t9:=underlying9,a9:=isAgg9,z9:=sizeOf9,v9:=zeroValue9,t46:=underlying47,a46:=isAgg47,z46:=sizeOf47,v46:=zeroValue47,t53:=underlying103,a53:=isAgg103,z53:=sizeOf103,v53:=zeroValue103,t212:=underlying389,a212:=isAgg389,z212:=sizeOf389,v212:=zeroValue389,g17:=by kernel_rfl,i0:=by kernel_rfl,i3:=by kernel_rfl,i4:=by kernel_rfl,i5:=by kernel_rfl,i9:=by kernel_rfl,i46:=by kernel_rfl,i53:=by kernel_rfl,i212:=by kernel_rfl,m17:=by kernel_rfl}
def LP:Go.Shelf.Ren:=⟨λ|285=>243|n=>n,λ|37=>126|53=>103|3=>3|4=>4|51=>96|9=>9|5=>5|0=>0|n=>n,λ|n=>n⟩
def Tryz.lays285:Go.Proofs.Lays.n285 bG LP:={mixed:=by kernel_rfl,f285:=func243.trans (bW M<|by kernel_rfl),t0:=underlying0,a0:=isAgg0,z0:=sizeOf0,v0:=zeroValue0,t3:=underlying3,a3:=isAgg3,z3:=sizeOf3,v3:=zeroValue3,t4:=underlying4,a4:=isAgg4,z4:=sizeOf4,v4:=zeroValue4,t5:=underlying5,a5:=isAgg5,z5:=sizeOf5,v5:=zeroValue5,t9:=underlying9,a9:=isAgg9,z9:=sizeOf9,v9:=zeroValue9,t37:=underlying126,a37:=isAgg126,z37:=sizeOf126,v37:=zeroValue126,t51:=underlying96,a51:=isAgg96,z51:=sizeOf96,v51:=zeroValue96,t53:=underlying103,a53:=isAgg103,z53:=sizeOf103,v53:=zeroValue103}
end
section
open Go.Shelf Go.Sort
def Pow(w:I):Prop:=Lib.TabIs bG w "internal/strconv.uint64pow10" .u64 Lib.pow10Tab
def Ep:prog.globalNamed "internal/strconv.uint64pow10" =M 2:=by kernel_rfl
def Pow.dq{w w':I}(h:Pow w)(a:w'.heap[2]?=w.heap[2]?):Pow w':=by
 unfold Pow Lib.TabIs World.var? at*;rw[Ep]at*;simp only[qU]at*;rw[a];exact h
def Pow.lt(h:Pow a):2<G (H a):=by
 unfold Pow Lib.TabIs World.var? at h;rw[Ep]at h;simp only[qU]at h;rcases dK 2 (G<|H a)with c|c;exact c;rw[eL c]at h;simp at h
def Pow.ay{S:fN}{w w':I}(h:Pow w)(c:J S w w')(a:¬S 2):Pow w':=h.dq<|c.block _ h.lt a
def Fp(u:R):ab:=⟨(Lib.decDigits u).toArray⟩
def Gk(u:R)(c:u<18446744073709551616)(t:Pow a):cA bG 205 #[aL u,aq 10] a λk d=>k=aP (aj<|Fp u)/\Below (G<|H a) a d:=by
 by_cases j:u<100;(.have b:∀W,cA bG 241 #[aq u] W λk d=>k=aP (aj<|Fp u)/\d=W:=λW=>Any.internal_strconv_small Tryz.lays283 u j W;(have e:(u:Y)<100:=by omega);(have f:IntKind.i64.wrap (u:Y)=(u:Y):=by rw[bQ];omega);clear t;(go_in);(go_wp2_with(go_at_call 241;refine(b _).mono ?_;rintro k d⟨rfl,rfl⟩));go_ret;exact⟨rfl,Below.refl _ _⟩)
 .have o:1<=u:=by omega
  have s:Lib.nDigits u<=20:=by have:=Lib.numDigits_eq u o c;split at this<;>omega
  have g:prog.arrayLen 369=24:=by kernel_rfl
  have A:∀W,(Instr.sliceAt 369 (aA<|G<|H a) none (M<|aq (Lib.nDigits u:Y)) none).run bG W=.ok (bE (G<|H a) 0 (Lib.nDigits u) 24) W:=λW=>by
   rw[run_sliceAt_array_h W 369 (U (G<|H a) 0) (by kernel_rfl) .i64 (Lib.nDigits u:Y) (by omega) (by rw[g];omega)];rw[g];have r:(sizeOf<|prog.elem 369).run bG W=.ok 1 W:=by kernel_rfl
   rw[r];simp[Result.andThen,slicedAt,Lib.add_plain]
  have f:=Lib.holds_zero0 a 369 (Lib.nDigits u) (by omega);have l:cA bG 243 #[bE (G<|H a) 0 (Lib.nDigits u) 24,aL u] (cF a<|aw Lib.zeros24 369) λk d=>
   k=aP (dE #[])/\(∃(B:R)(b:Array UInt8),d=(putRow (λ(j:UInt8)=>tP (j.toNat:Y)) (cF a<|aw Lib.zeros24 369) (G<|H a) 0 b).drewN B/\∃i,Lib.FmtInv (Lib.nDigits u) u 0 i b):=by
    have:=Any.internal_strconv_formatBase10 Tryz.lays285 (G<|H a) 0 24 u (Array.replicate (Lib.nDigits u) 0) (cF a<|aw Lib.zeros24 369) f (by rw[nN];exact Lib.lt_pow_nDigits u) c (by rw[nN];omega);rw[nN]at this;apply this.mono;rintro k d⟨r,B,i,b,w,x⟩;exact⟨r,B,b,w,i,x⟩
  have m:∀W,Pow W->cA bG 242 #[aL u] W λk d=>k=aP (aq<|Lib.nDigits u)/\d=W:=λW a=>Any.internal_strconv_numDigits Tryz.lays284 u o c W a;have n:=m (cF a<|aw Lib.zeros24 369)<|Lib.tabIs_alloc t _;have q:=Z f;have C:(100:Y)<=(u:Y):=by omega
  have e:=Z (show∀(p:R)(b:Array UInt8),(∃i,Lib.FmtInv (Lib.nDigits u) u 0 i b)->(convert 126 9<|bE (G<|H a) 0 (Lib.nDigits u) 24).run bG ((putRow (λ(j:UInt8)=>tP (j.toNat:Y)) (cF a<|aw Lib.zeros24 369) (G<|H a) 0 b).drewN p)=.ok (aj<|Fp u) ((putRow (λ(j:UInt8)=>tP (j.toNat:Y)) (cF a<|aw Lib.zeros24 369) (G<|H a) 0 b).drewN p)/\Below (G<|H a) a ((putRow (λ(j:UInt8)=>tP (j.toNat:Y)) (cF a<|aw Lib.zeros24 369) (G<|H a) 0 b).drewN p)from by
   rintro p b⟨i,hF⟩;constructor
   .have h:=vG (P:=bG) ((putRow (λ(j:UInt8)=>tP (j.toNat:Y)) (cF a<|aw Lib.zeros24 369) (G<|H a) 0 b).drewN p) 126 9 5 (U (G<|H a) 0) 24 (Lib.decDigits u) (by kernel_rfl) (by kernel_rfl) (by kernel_rfl) (λw r=>by
     rw[Lib.row_is_numeral hF w r,Lib.add_plain,World.cell?_drewN];exact cell?_putRow (λ(j:UInt8)=>tP (j.toNat:Y)) _ (G (H a)) 0 _ b q (by rw[hF.size,nN]) w (by rw[hF.size];rw[Lib.decDigits_length]at r;exact r))
    rw[Lib.decDigits_length]at h;exact h
   .obtain⟨w,r⟩:=Lib.fin_at a (aw Lib.zeros24 369) b p 0;rw[r];exact Lib.below_grow _ a (ai _) p w)
  clear f g m t;unfold Lib.zeros24 at*;go_in
  go_wp2_with(first
   |(go_at_call 242;refine n.mono ?_;rintro k D⟨rfl,rfl⟩)
   |(go_at_call 243;refine l.mono ?_;rintro k E⟨rfl,p,b,rfl,hF⟩;have y:=(e p b hF).1;have v:=Z (e p b hF).2;clear hF))
  go_ret;exact⟨rfl,v⟩
def tE(u:R)(b:u<18446744073709551616)(d:Pow a):cA bG 145 #[aL u,aq 10] a λg f=>g=aP (aj<|Fp u)/\Below (G<|H a) a f:=by
 have h:=Gk u b d;clear d;go_in
 go_wp2_with(go_at_call 205;refine h.mono ?_;rintro g i⟨rfl,c⟩;have e:=Z c;clear c)
 go_ret;exact⟨rfl,e⟩
end
def Pd(l:cD UInt8):R:=l.foldl (λa d=>a*10+(d.toNat-48)) 0
def zi(u:R):Pd (Lib.decDigits u)=u:=by
 induction u using Nat.strongRecOn with
 |ind u a=>
  rw[Lib.decDigits];split
  .rename_i h;unfold Pd;simp[UInt8.toNat_ofNat'];omega
  .rename_i h;have:=a (u/10) (by omega);unfold Pd at*;rw[iQ,this];simp[UInt8.toNat_ofNat'];omega
def XK:ab:=⟨#[116,97,98,108,101,45]⟩
def Zc:ab:=⟨#[108,111,103,45]⟩
def gY:ab:=⟨#[115,116,97,116,101]⟩
def vh:ab:=⟨#[115,116,97,116,101,46,110,101,119]⟩
def gP(u:R):ab:=XK++Fp u
def iU(u:R):ab:=Zc++Fp u
def MS(a b:ab):(a++b).data.toList=a.data.toList++b.data.toList:=by simp
def wy(h:v=W):v.data.toList=W.data.toList:=by rw[h]
def vf(u:R):(gP u).data.toList=[116,97,98,108,101,45]++Lib.decDigits u:=by unfold gP;rw[MS];rfl
def BC(u:R):(iU u).data.toList=[108,111,103,45]++Lib.decDigits u:=by unfold iU;rw[MS];rfl
def vg(h:gP b=gP c):b=c:=by
 have:=wy h;rw[vf,vf,List.append_cancel_left_eq]at this;rw[<-zi b,this,zi]
def mZ(u v:R):gP u≠iU v:=by
 intro h;have:=wy h;rw[vf,BC]at this;simp at this
def vT(u:R):gP u≠gY:=by
 intro h;have:=wy h;rw[vf]at this;simp[gY]at this
def DL(u:R):gP u≠vh:=by
 intro h;have:=wy h;rw[vf]at this;simp[vh]at this
def sy(u:R):iU u≠gY:=by
 intro h;have:=wy h;rw[BC]at this;simp[gY]at this
def Oz(u:R):iU u≠vh:=by
 intro h;have:=wy h;rw[BC]at this;simp[vh]at this
def II:gY≠vh:=by
 intro h;have:=wy h;simp[gY,vh]at this
def Ib(u:R)(h:u<18446744073709551616):(Fp u).size<=20:=by
 have a:(Fp u).size=z (Lib.decDigits u):=by simp[Fp,ByteArray.size]
 rw[a,Lib.decDigits_length];exact Lib.nDigits_le20 u h
def Bl(u:R)(b:u<18446744073709551616)(d:Pow a):cA bG 201 #[aL u] a λg f=>g=aP (aj<|gP u)/\Below (G<|H a) a f:=by
 have h:=tE u b d;have i:=Ib u b;clear d;go_in
 go_wp2_with(go_at_call 145;refine h.mono ?_;rintro g j⟨rfl,c⟩;have e:=Z c;clear c)
 go_ret;exact⟨rfl,e⟩
def wg(u:R)(b:u<18446744073709551616)(d:Pow a):cA bG 91 #[aL u] a λf w'=>f=aP (aj<|iU u)/\Below (G<|H a) a w':=by
 have h:=tE u b d;have g:=Ib u b;clear d;go_in
 go_wp2_with(go_at_call 145;refine h.mono ?_;rintro f i⟨rfl,c⟩;have e:=Z c;clear c)
 go_ret;exact⟨rfl,e⟩
section
open Go.Shelf
def Jo:Go.Shelf.Ren:=⟨λ|14=>246|16=>273|17=>274|19=>285|20=>286|21=>287|22=>288|23=>289|24=>290|25=>161|27=>293|26=>292|28=>294|29=>295|30=>241|31=>242|32=>243|33=>244|35=>239|34=>268|36=>269|37=>270|38=>271|39=>282|40=>283|n=>n,λ|9=>9|3=>3|22=>103|24=>50|25=>119|4=>4|34=>398|5=>5|36=>47|37=>126|0=>0|39=>400|21=>21|44=>407|47=>343|50=>410|48=>408|2=>2|52=>369|55=>371|59=>389|60=>96|20=>20|61=>390|65=>404|66=>405|67=>278|n=>n,λ|0=>5|1=>6|2=>2|3=>3|4=>4|n=>n⟩
def UJ:Go.Proofs.LaysPu.n14 bG Jo:={mixed:=by kernel_rfl,f14:=func246.trans (bW M<|by kernel_rfl),f16:=func273.trans (bW M<|by kernel_rfl),f17:=func274.trans (bW M<|by kernel_rfl),f19:=func285.trans (bW M<|by kernel_rfl),f20:=func286.trans (bW M<|by kernel_rfl),f21:=func287.trans (bW M<|by kernel_rfl),f22:=func288.trans (bW M<|by kernel_rfl),f23:=func289.trans (bW M<|by kernel_rfl),f24:=func290.trans (bW M<|by kernel_rfl),f25:=func161.trans (bW M<|by kernel_rfl),f26:=func292.trans (bW M<|by kernel_rfl),f27:=func293.trans (bW M<|by kernel_rfl),f28:=func294.trans (bW M<|by kernel_rfl),f29:=func295.trans (bW M<|by kernel_rfl),f30:=func241.trans (bW M<|by kernel_rfl),f31:=func242.trans (bW M<|by kernel_rfl),f32:=func243.trans (bW M<|by kernel_rfl),f33:=func244.trans (bW M<|by kernel_rfl),f34:=func268.trans (bW M<|by kernel_rfl),f35:=func239.trans (bW M<|by kernel_rfl),f36:=func269.trans (bW M<|by kernel_rfl),f37:=func270.trans (bW M<|by kernel_rfl),f38:=func271.trans (bW M<|by kernel_rfl),f39:=func282.trans (bW M<|by kernel_rfl),f40:=func283.trans (bW M<|by kernel_rfl),t0:=underlying0,a0:=isAgg0,z0:=sizeOf0,v0:=zeroValue0,i0:=by kernel_rfl,t2:=underlying2,a2:=isAgg2,z2:=sizeOf2,v2:=zeroValue2,i2:=by kernel_rfl,t3:=underlying3,a3:=isAgg3,z3:=sizeOf3,v3:=zeroValue3,i3:=by kernel_rfl,t4:=underlying4,a4:=isAgg4,z4:=sizeOf4,v4:=zeroValue4,i4:=by kernel_rfl,t5:=underlying5,a5:=isAgg5,z5:=sizeOf5,v5:=zeroValue5,i5:=by kernel_rfl,t9:=underlying9,a9:=isAgg9,z9:=sizeOf9,v9:=zeroValue9,i9:=by kernel_rfl,t20:=underlying20,a20:=isAgg20,z20:=sizeOf20,v20:=zeroValue20,i20:=by kernel_rfl,t21:=underlying21,a21:=isAgg21,z21:=sizeOf21,v21:=zeroValue21,i21:=by kernel_rfl,t22:=underlying103,a22:=isAgg103,z22:=sizeOf103,v22:=zeroValue103,i22:=by kernel_rfl,t24:=underlying50,a24:=isAgg50,z24:=sizeOf50,v24:=zeroValue50,i24:=by kernel_rfl,t25:=underlying119,a25:=isAgg119,z25:=sizeOf119,v25:=zeroValue119,i25:=by kernel_rfl,t34:=underlying398,a34:=isAgg398,z34:=sizeOf398,v34:=zeroValue398,i34:=by kernel_rfl,c34:=by kernel_rfl,t36:=underlying47,a36:=isAgg47,z36:=sizeOf47,v36:=zeroValue47,i36:=by kernel_rfl,t37:=underlying126,a37:=isAgg126,z37:=sizeOf126,v37:=zeroValue126,i37:=by kernel_rfl,t39:=underlying400,a39:=isAgg400,z39:=sizeOf400,v39:=zeroValue400,i39:=by kernel_rfl,t44:=underlying407,a44:=isAgg407,z44:=sizeOf407,v44:=zeroValue407,i44:=by kernel_rfl,t47:=underlying343,a47:=isAgg343,z47:=sizeOf343,v47:=zeroValue343,i47:=by kernel_rfl,t48:=underlying408,a48:=isAgg408,z48:=sizeOf408,v48:=zeroValue408,i48:=by kernel_rfl,t50:=underlying410,a50:=isAgg410,z50:=sizeOf410,v50:=zeroValue410,i50:=by kernel_rfl,t52:=underlying369,a52:=isAgg369,z52:=sizeOf369,v52:=zeroValue369,i52:=by kernel_rfl,t55:=underlying371,a55:=isAgg371,z55:=sizeOf371,v55:=zeroValue371,i55:=by kernel_rfl,t59:=underlying389,a59:=isAgg389,z59:=sizeOf389,v59:=zeroValue389,i59:=by kernel_rfl,t60:=underlying96,a60:=isAgg96,z60:=sizeOf96,v60:=zeroValue96,i60:=by kernel_rfl,t61:=underlying390,a61:=isAgg390,z61:=sizeOf390,t65:=underlying404,a65:=isAgg404,z65:=sizeOf404,v65:=zeroValue404,i65:=by kernel_rfl,t66:=underlying405,a66:=isAgg405,z66:=sizeOf405,v66:=zeroValue405,i66:=by kernel_rfl,t67:=underlying278,a67:=isAgg278,z67:=sizeOf278,v67:=zeroValue278,i67:=by kernel_rfl,g0:=by kernel_rfl,m0:=by kernel_rfl,g1:=by kernel_rfl,m1:=by kernel_rfl,g2:=by kernel_rfl,m2:=by kernel_rfl,g3:=by kernel_rfl,m3:=by kernel_rfl,g4:=by kernel_rfl,m4:=by kernel_rfl}
def MH(w:I)(e:TypeId)(s:ab):Below (G<|H w) w (Lib.bytesWorld w e s):=⟨rfl,rfl,rfl,by rw[Lib.bytesWorld_size];omega,λk a=>Lib.bytesWorld_at_old w e s k<|by omega⟩
def Rt(w:I):cA bG 246 #[aj ⟨#[49]⟩,aq 10,aq 64] w λe a=>e=aP (dE #[aL 1,.nilIface])/\J az w a:=by
 have h:=Any.strconv_ParseUint_10_at64_ok UJ ⟨#[49]⟩ (by decide) 1 (by kernel_rfl) w;refine zm h ?_;rintro e a⟨rfl,rfl|rfl⟩;exact⟨rfl,J.refl _ _⟩;exact⟨rfl,J.aV (S:=az)<|MH w _ _⟩
def Rn(w:I):cA bG 284 #[aj ⟨#[108,111,103,45,49]⟩,aj ⟨#[116,97,98,108,101,45]⟩] w λe a=>e=aP (aO bF)/\a=w:=by
 go_in
 go_wp2;go_ret;exact⟨rfl,rfl⟩
def Od(w:I):cA bG 284 #[aj ⟨#[108,111,103,45,49]⟩,aj ⟨#[108,111,103,45]⟩] w λe a=>e=aP (aO bX)/\a=w:=by
 go_in
 go_wp2;go_ret;refine⟨?_,rfl⟩;kernel_rfl
def WX(w:I):cA bG 245 #[aj ⟨#[108,111,103,45,49]⟩,aj ⟨#[116,97,98,108,101,45]⟩] w λe b=>e=aP (dE #[aj ⟨#[108,111,103,45,49]⟩,aO bF])/\b=w:=by
 have a:=Rn w;have d:cA bG 272 #[aj ⟨#[108,111,103,45,49]⟩,aj ⟨#[116,97,98,108,101,45]⟩] w λe b=>e=aP (dE #[aj ⟨#[108,111,103,45,49]⟩,aO bF])/\b=w:=by(go_in);(go_wp2_with(go_at_call 284;refine a.mono ?_;rintro e c⟨rfl,f⟩;subst c));(go_ret2);exact⟨rfl,rfl⟩
 go_in
 go_wp2_with(go_at_call 272;refine d.mono ?_;rintro e c⟨rfl,f⟩;subst c)
 go_ret2
 exact⟨rfl,rfl⟩
def Vw(w:I):cA bG 245 #[aj ⟨#[108,111,103,45,49]⟩,aj ⟨#[108,111,103,45]⟩] w λe b=>e=aP (dE #[aj ⟨#[49]⟩,aO bX])/\b=w:=by
 have a:=Od w;have d:cA bG 272 #[aj ⟨#[108,111,103,45,49]⟩,aj ⟨#[108,111,103,45]⟩] w λe b=>e=aP (dE #[aj ⟨#[49]⟩,aO bX])/\b=w:=by(go_in);(go_wp2_with(go_at_call 284;refine a.mono ?_;rintro e c⟨rfl,f⟩;subst c));(go_ret2);refine⟨?_,rfl⟩;kernel_rfl
 go_in
 go_wp2_with(go_at_call 272;refine d.mono ?_;rintro e c⟨rfl,f⟩;subst c)
 go_ret2
 exact⟨rfl,rfl⟩
def Qf:Fp 1=⟨#[49]⟩:=by
 unfold Fp;rw[Lib.decDigits];simp
def Ol(m:Pow a):cA bG 206 #[aj ⟨#[108,111,103,45,49]⟩] a λj p=>j=aP (dE #[aL 1,aO bX])/\J az a p:=by
 have e:=Rt a;have b:=λW(h:J az a W)=>tE 1 (by omega)<|Pow.ay m h id;rw[Qf]at b;clear m;have l:=WX a;have n:=Vw a;go_in
 go_wp2_with fail
 apply l.mono;rintro j f⟨rfl,o⟩;subst f;go_wp2_with fail
 apply n.mono;rintro j f⟨rfl,o⟩;subst f;go_wp2_with fail
 apply e.mono;rintro j f⟨rfl,c⟩;have k:=b f c;have g:=Z c;clear c b e l n;go_wp2_with fail
 apply k.mono;rintro j q⟨rfl,d⟩;have i:=Z<|g.cw<|J.aV (S:=az) d;clear d k;go_wp2;go_ret2
 exact⟨rfl,i⟩
end
section
open Go.Shelf
def Jn:Go.Shelf.Ren:=⟨λ|25=>161|n=>n,λ|9=>9|3=>3|4=>4|37=>126|0=>0|47=>343|5=>5|n=>n,λ|n=>n⟩
def UI:Go.Proofs.LaysPu.n25 bG Jn:={mixed:=by kernel_rfl,f25:=func161.trans (bW M<|by kernel_rfl),t0:=underlying0,a0:=isAgg0,z0:=sizeOf0,v0:=zeroValue0,i0:=by kernel_rfl,t3:=underlying3,a3:=isAgg3,z3:=sizeOf3,v3:=zeroValue3,i3:=by kernel_rfl,t4:=underlying4,a4:=isAgg4,z4:=sizeOf4,v4:=zeroValue4,i4:=by kernel_rfl,t5:=underlying5,a5:=isAgg5,z5:=sizeOf5,v5:=zeroValue5,i5:=by kernel_rfl,t9:=underlying9,a9:=isAgg9,z9:=sizeOf9,v9:=zeroValue9,i9:=by kernel_rfl,t37:=underlying126,a37:=isAgg126,z37:=sizeOf126,v37:=zeroValue126,i37:=by kernel_rfl,t47:=underlying343,a47:=isAgg343,z47:=sizeOf343,v47:=zeroValue343,i47:=by kernel_rfl}
def vC(s:ab)(w:I)(f:s.size<=281474976710656):cA bG 103 #[aj s] w λe a=>e=aP (aj s)/\Below (G<|H w) w a:=by
 have h:=AnyPu.stringslite_Clone UI s w f;have d:cA bG 161 #[aj s] w λe a=>e=aP (aj s)/\Below (G<|H w) w a:=h;clear h;go_in
 go_wp2_with fail
 apply d.mono;rintro e g⟨rfl,b⟩;have c:=Z b;clear b;go_wp2;go_ret;exact⟨rfl,c⟩
end
section
open Go.Shelf
def LU:Go.Shelf.Ren:=⟨λ|190=>152|125=>191|258=>214|128=>238|129=>239|302=>250|303=>251|304=>252|305=>253|306=>254|307=>255|308=>256|309=>257|310=>258|333=>276|329=>263|330=>264|334=>277|335=>278|336=>279|344=>291|n=>n,λ|31=>192|9=>9|3=>3|46=>47|0=>0|51=>96|53=>103|4=>4|183=>357|182=>356|131=>362|5=>5|218=>383|222=>386|228=>396|229=>60|n=>n,λ|n=>n⟩
def Tryz.lays190:Go.Proofs.Lays.n190 bG LU:={mixed:=by kernel_rfl,f125:=func191.trans (bW M<|by kernel_rfl),f128:=func238.trans (bW M<|by kernel_rfl),f129:=func239.trans (bW M<|by kernel_rfl),f190:=func152.trans (bW M<|by kernel_rfl),f258:=func214.trans (bW M<|by kernel_rfl),f302:=func250.trans (bW M<|by kernel_rfl),f303:=func251.trans (bW M<|by kernel_rfl),f304:=func252.trans (bW M<|by kernel_rfl),f305:=func253.trans (bW M<|by kernel_rfl),f306:=func254.trans (bW M<|by kernel_rfl),f307:=func255.trans (bW M<|by kernel_rfl),f308:=func256.trans (bW M<|by kernel_rfl),f309:=func257.trans (bW M<|by kernel_rfl),f310:=func258.trans (bW M<|by kernel_rfl),f329:=func263.trans (bW M<|by kernel_rfl),f330:=func264.trans (bW M<|by kernel_rfl),f333:=func276.trans (bW M<|by kernel_rfl),f334:=func277.trans (bW M<|by kernel_rfl),f335:=func278.trans (bW M<|by kernel_rfl),f336:=func279.trans (bW M<|by kernel_rfl),f344:=func291.trans (bW M<|by kernel_rfl),t0:=underlying0,a0:=isAgg0,z0:=sizeOf0,v0:=zeroValue0,t3:=underlying3,a3:=isAgg3,z3:=sizeOf3,v3:=zeroValue3,t4:=underlying4,a4:=isAgg4,z4:=sizeOf4,v4:=zeroValue4,t5:=underlying5,a5:=isAgg5,z5:=sizeOf5,v5:=zeroValue5,t9:=underlying9,a9:=isAgg9,z9:=sizeOf9,v9:=zeroValue9,t31:=underlying192,a31:=isAgg192,z31:=sizeOf192,v31:=zeroValue192,t46:=underlying47,a46:=isAgg47,z46:=sizeOf47,v46:=zeroValue47,t51:=underlying96,a51:=isAgg96,z51:=sizeOf96,v51:=zeroValue96,t53:=underlying103,a53:=isAgg103,z53:=sizeOf103,v53:=zeroValue103,t131:=underlying362,a131:=isAgg362,z131:=sizeOf362,v131:=zeroValue362,t182:=underlying356,a182:=isAgg356,z182:=sizeOf356,v182:=zeroValue356,t183:=underlying357,a183:=isAgg357,z183:=sizeOf357,v183:=zeroValue357,t218:=underlying383,a218:=isAgg383,z218:=sizeOf383,v218:=zeroValue383,t222:=underlying386,a222:=isAgg386,z222:=sizeOf386,v222:=zeroValue386,t228:=underlying396,a228:=isAgg396,z228:=sizeOf396,v228:=zeroValue396,t229:=underlying60,a229:=isAgg60,z229:=sizeOf60,v229:=zeroValue60}
def strs(a:cD ab):jd:=a.map Value.string
def Jm(w:I):cA bG 239 #[aL 0] w λe a=>e=aP (aq 0)/\a=w:=by
 go_in
 go_wp2;go_ret;exact⟨by simp;kernel_rfl,rfl⟩
def OA(w:I):cA bG 191 #[aL 0] w λe a=>e=aP (aq 0)/\a=w:=by
 have h:=Jm w;go_in
 go_wp2_with(go_at_call 239;refine h.mono ?_;rintro e a⟨rfl,rfl⟩)
 go_wp2;go_ret;exact⟨rfl,rfl⟩
def Ju(w:I):cA bG 250 #[aG,aq 0,aq 0] w λe a=>e=aP (dE #[])/\a=w:=by
 go_in
 go_wp2;refine my 1 ?_;rw[kw];go_wp2;go_end0;exact⟨rfl,rfl⟩
def Ue(w:I):cA bG 214 #[aG,aq 0,aq 0,aq 0] w λe a=>e=aP (dE #[])/\a=w:=by
 have h:=Ju w;go_in
 go_wp2;refine my 1 ?_;rw[kw];go_wp2_with fail
 apply h.mono;rintro e a⟨rfl,rfl⟩;go_wp2;refine cO (iY rfl _ _ _) rfl ?_;exact⟨rfl,rfl⟩
def QM(w:I):cA bG 152 #[aG] w λe a=>e=aP (dE #[])/\a=w:=by
 have h:=Ue w;have b:=OA w;go_in
 go_wp2_with(first|(go_at_call 191;refine b.mono ?_;rintro e a⟨rfl,rfl⟩)|(go_at_call 214;refine h.mono ?_;rintro e a⟨rfl,rfl⟩))
 go_wp2;go_end0;exact⟨rfl,rfl⟩
def TC(c:cD ab)(P:a.ownsRow b 9 1 d (z c) (strs c))(hn:z c<=1000000000000):cA bG 152 #[d] a λC B=>C=aP (dE #[])/\∃O:cD ab,O.Perm c/\B.ownsRow b 9 1 d (z O) (strs O)/\J (λA=>bY d=M A) a B:=by
 rcases P.2 with⟨rfl,X⟩|⟨u,t,h,rfl,D,v,N,E,F,q⟩;apply(QM a).mono;rintro C B⟨rfl,rfl⟩;exact⟨rfl,c,nJ _,P,J.refl _ _⟩;obtain⟨k,p⟩:∃k,c.map (λS=>S.data.toList)=k:=⟨_,rfl⟩;(have o:z k=z c:=by rw[<-p,cV]);(have e:∀j(l:j<z c),h[j]?=M (aj c[j]):=by intro j l;(have s:(h.toList.take<|z c*1)[j]?=(strs c)[j]?:=by rw[q]);rw[rE,lW l]at s;rw[<-wQ,s];simp[strs,l]);(have T:Go.Sort.Holds encStr a u 0 k.toArray:=by intro j l;(have w:j<z c:=by simpa[o]using l);(have K:j<z k:=by omega);refine⟨?_,by simp[World.frozen?,v]⟩;rw[cZ,bL v,e j w];(have:k.toArray[j]! =c[j].data.toList:=by rw[getElem!_pos _ j<|by simpa using K];simp[<-p]);rw[this]);have V:=Any.slices_Sort_string Tryz.lays190 u 0 t k a T (am v) (by omega);rw[o]at V;apply V.mono;rintro C B⟨rfl,W,y,rfl⟩;obtain⟨g,x⟩:∃g,k.mergeSort (λc a=>decide<|c<=a)=g:=⟨_,rfl⟩;(have f:g.Perm k:=by rw[<-x];exact List.mergeSort_perm _ _);rw[x];(have r:z g=z c:=by rw[f.length_eq,o]);(have m:(Go.Sort.grow (Go.Sort.putRow encStr (Go.Sort.ahead a W) u 0 g.toArray) y).heap[u]?=M (aw (Go.Sort.putCells encStr 0 g.toArray h) 9 (0,0)):=by show((a.heap.modify u _)++y)[u]?=_;rw[nQ (by simp;exact am v),qQ,dt rfl,v];rfl);(have i:∀A,A<G (H a)->A≠u->(Go.Sort.grow (Go.Sort.putRow encStr (Go.Sort.ahead a W) u 0 g.toArray) y).heap[A]?=a.heap[A]?:=by intro A L n;show((a.heap.modify u _)++y)[A]?=_;rw[nQ (by simp;exact L),qQ,dh<|λC=>n C.symm]);refine⟨rfl,g.map<|λQ=>⟨Q.toArray⟩,?_,⟨by simp[strs],.inr ⟨u,t,_,by rw[cV,r],D,m,by rw[cV,r];exact N,E,by simpa[Go.Sort.putCells]using F,?_⟩⟩,rfl,rfl,rfl,?_,?_⟩;have s:=f.map (λQ:cD UInt8=>(⟨Q.toArray⟩:ab));rw[<-p,iZ]at s;(have w:c.map ((λQ:cD UInt8=>(⟨Q.toArray⟩:ab))∘λS=>S.data.toList)=c:=by(conv=>rhs;rw[<-xh c]);apply mu;intro S _;simp);rw[w]at s;exact s;apply qf;intro j;rw[cV,r,rE];by_cases l:j<z c;rw[lW l];(have w:j<z g:=by omega);(have:(Go.Sort.putCells encStr 0 g.toArray h).toList[j]?=M (aj ⟨g[j].toArray⟩):=by rw[wQ];unfold Go.Sort.putCells;rw[Array.getElem?_mapIdx,e j l];simp[w,encStr]);rw[this];simp[strs,w];rw[List.getElem?_take_eq_none (by omega),dy (by simp[strs];omega)];show G (H a)<=((a.heap.modify u _)++y).size;simp;intro A L n;exact i A L<|λC=>n (by rw[C];rfl)
end
