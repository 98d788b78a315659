import Derived.BigCall
import Derived.BigGuard
import Derived.CellFam
import Derived.Ground.MpProg
import Derived.Ground.NamesProg
import Derived.Lib.AppendIntMem
import Derived.Lib.Hide
import Derived.Lib.ItoaLen
import Derived.Lib.ItoaMem
import Derived.Lib.ItoaWalk
import Derived.Lib.Walk
import Derived.Shelf.Pu.Clone
import Derived.Shelf.Pu.ParseUintPublic10
import Derived.Shelf.Sort.Plain
import Derived.Shelf.Strconv.Itoa1
import Derived.Shelf.Strconv.Itoa2
import Derived.Test.YtojeeoclojldpaaGreatDoorC2
open _root_ renaming List.length→y,Option.some→H,Array.size→z,Go.World.heap→G,Go.Value.ownBlock→bV,Go.World.alloc→ct,Bool.false→bF,Bool.true→bW,Nat→M,Int→Z,List→cr,Go.Calls→cy,Go.Proofs.Tryz.prog→bG,Go.Value.string→ai,Go.Value.bool→aL,Go.Value.tuple→dB
namespace Go.Proofs.YtojeeoclojldpaaGreatDoor
open ChangeShapes WideShapes RowKit Proofs.Tryz
set_option maxHeartbeats 16000000
set_option linter.all false
set_option maxRecDepth 100000
variable{a:I}{b c:M}{d:aa}{v W:ab}
section
open Go.Shelf
def Lq:Go.Shelf.Ren:=⟨λ|283=>241|n=>n,λ|3=>3|9=>9|4=>4|n=>n,λ|n=>n⟩
def Tryz.lays283:Go.Proofs.Lays.n283 bG Lq:={mixed:=by kernel_rfl,f283:=func241.trans (bU H<|by kernel_rfl),t3:=underlying3,a3:=isAgg3,z3:=sizeOf3,v3:=zeroValue3,t4:=underlying4,a4:=isAgg4,z4:=sizeOf4,v4:=zeroValue4,t9:=underlying9,a9:=isAgg9,z9:=sizeOf9,v9:=zeroValue9}
def Lp:Go.Shelf.Ren:=⟨λ|284=>242|129=>239|317=>268|318=>269|n=>n,λ|53=>103|3=>3|212=>389|0=>0|4=>4|46=>47|5=>5|9=>9|n=>n,λ|17=>2|n=>n⟩
def Tryz.lays284:Go.Proofs.LaysM.n284 bG Lp:={mixed:=by kernel_rfl,f129:=func239.trans (bU H<|by kernel_rfl),f284:=func242.trans (bU H<|by kernel_rfl),f317:=func268.trans (bU H<|by kernel_rfl),f318:=func269.trans (bU H<|by kernel_rfl),t0:=underlying0,a0:=isAgg0,z0:=sizeOf0,v0:=zeroValue0,t3:=underlying3,a3:=isAgg3,z3:=sizeOf3,v3:=zeroValue3,t4:=underlying4,a4:=isAgg4,z4:=sizeOf4,v4:=zeroValue4,t5:=underlying5,a5:=isAgg5,z5:=sizeOf5,v5:=zeroValue5,t9:=underlying9,a9:=isAgg9,z9:=sizeOf9,v9:=zeroValue9,t46:=underlying47,a46:=isAgg47,z46:=sizeOf47,v46:=zeroValue47,t53:=underlying103,a53:=isAgg103,z53:=sizeOf103,v53:=zeroValue103,t212:=underlying389,a212:=isAgg389,z212:=sizeOf389,v212:=zeroValue389,g17:=by kernel_rfl,i0:=by kernel_rfl,i3:=by kernel_rfl,i4:=by kernel_rfl,i5:=by kernel_rfl,i9:=by kernel_rfl,i46:=by kernel_rfl,i53:=by kernel_rfl,i212:=by kernel_rfl,m17:=by kernel_rfl}
def Lo:Go.Shelf.Ren:=⟨λ|285=>243|n=>n,λ|37=>126|53=>103|3=>3|4=>4|51=>96|9=>9|5=>5|0=>0|n=>n,λ|n=>n⟩
def Tryz.lays285:Go.Proofs.Lays.n285 bG Lo:={mixed:=by kernel_rfl,f285:=func243.trans (bU H<|by kernel_rfl),t0:=underlying0,a0:=isAgg0,z0:=sizeOf0,v0:=zeroValue0,t3:=underlying3,a3:=isAgg3,z3:=sizeOf3,v3:=zeroValue3,t4:=underlying4,a4:=isAgg4,z4:=sizeOf4,v4:=zeroValue4,t5:=underlying5,a5:=isAgg5,z5:=sizeOf5,v5:=zeroValue5,t9:=underlying9,a9:=isAgg9,z9:=sizeOf9,v9:=zeroValue9,t37:=underlying126,a37:=isAgg126,z37:=sizeOf126,v37:=zeroValue126,t51:=underlying96,a51:=isAgg96,z51:=sizeOf96,v51:=zeroValue96,t53:=underlying103,a53:=isAgg103,z53:=sizeOf103,v53:=zeroValue103}
end
section
open Go.Shelf Go.Sort
def Pow(w:I):Prop:=Lib.TabIs bG w "internal/strconv.uint64pow10" .u64 Lib.pow10Tab
def DY:prog.globalNamed "internal/strconv.uint64pow10" =H 2:=by kernel_rfl
def Pow.de{w w':I}(h:Pow w)(a:w'.heap[2]?=w.heap[2]?):Pow w':=by
 unfold Pow Lib.TabIs World.var? at*;rw[DY]at*;simp only[qE]at*;rw[a];exact h
def Pow.lt(h:Pow a):2<z (G a):=by
 unfold Pow Lib.TabIs World.var? at h;rw[DY]at h;simp only[qE]at h;rcases dF 2 (z<|G a)with b|b;exact b;rw[eD b]at h;simp at h
def Pow.aw{S:fJ}{w w':I}(h:Pow w)(b:Y S w w')(a:¬S 2):Pow w':=h.de<|b.block _ h.lt a
def EX(u:M):ab:=⟨(Lib.decDigits u).toArray⟩
def FR(u:M)(c:u<18446744073709551616)(t:Pow a):cy bG 205 #[aH u,ap 10] a λk d=>k=aO (ai<|EX u)/\Below (z<|G a) a d:=by
 by_cases j:u<100;(.have b:∀W,cy bG 241 #[ap u] W λk d=>k=aO (ai<|EX u)/\d=W:=λW=>Any.internal_strconv_small Tryz.lays283 u j W;(have e:(u:Z)<100:=by omega);(have f:IntKind.i64.wrap (u:Z)=(u:Z):=by rw[bQ];omega);clear t;(go_in);(go_wp2_with(go_at_call 241;refine(b _).mono ?_;rintro k d⟨rfl,rfl⟩));go_ret;exact⟨rfl,Below.refl _ _⟩)
 .have o:1<=u:=by omega
  have s:Lib.nDigits u<=20:=by have:=Lib.numDigits_eq u o c;split at this<;>omega
  have g:prog.arrayLen 369=24:=by kernel_rfl
  have B:∀W,(Instr.sliceAt 369 (aA<|z<|G a) none (H<|ap (Lib.nDigits u:Z)) none).run bG W=.ok (bD (z<|G a) 0 (Lib.nDigits u) 24) W:=λW=>by
   rw[run_sliceAt_array_h W 369 (R (z<|G a) 0) (by kernel_rfl) .i64 (Lib.nDigits u:Z) (by omega) (by rw[g];omega)];rw[g];have r:(sizeOf<|prog.elem 369).run bG W=.ok 1 W:=by kernel_rfl
   rw[r];simp[Result.andThen,slicedAt,Lib.add_plain]
  have f:=Lib.holds_zero0 a 369 (Lib.nDigits u) (by omega);have l:cy bG 243 #[bD (z<|G a) 0 (Lib.nDigits u) 24,aH u] (ct a<|ar Lib.zeros24 369) λk d=>
   k=aO (dB #[])/\(∃(C:M)(b:Array UInt8),d=(putRow (λ(j:UInt8)=>tC (j.toNat:Z)) (ct a<|ar Lib.zeros24 369) (z<|G a) 0 b).drewN C/\∃i,Lib.FmtInv (Lib.nDigits u) u 0 i b):=by
    have:=Any.internal_strconv_formatBase10 Tryz.lays285 (z<|G a) 0 24 u (Array.replicate (Lib.nDigits u) 0) (ct a<|ar Lib.zeros24 369) f (by rw[np];exact Lib.lt_pow_nDigits u) c (by rw[np];omega);rw[np]at this;apply this.mono;rintro k d⟨r,C,i,b,w,x⟩;exact⟨r,C,b,w,i,x⟩
  have m:∀W,Pow W->cy bG 242 #[aH u] W λk d=>k=aO (ap<|Lib.nDigits u)/\d=W:=λW a=>Any.internal_strconv_numDigits Tryz.lays284 u o c W a;have n:=m (ct a<|ar Lib.zeros24 369)<|Lib.tabIs_alloc t _;have q:=U f;have D:(100:Z)<=(u:Z):=by omega
  have e:=U (show∀(p:M)(b:Array UInt8),(∃i,Lib.FmtInv (Lib.nDigits u) u 0 i b)->(convert 126 9<|bD (z<|G a) 0 (Lib.nDigits u) 24).run bG ((putRow (λ(j:UInt8)=>tC (j.toNat:Z)) (ct a<|ar Lib.zeros24 369) (z<|G a) 0 b).drewN p)=.ok (ai<|EX u) ((putRow (λ(j:UInt8)=>tC (j.toNat:Z)) (ct a<|ar Lib.zeros24 369) (z<|G a) 0 b).drewN p)/\Below (z<|G a) a ((putRow (λ(j:UInt8)=>tC (j.toNat:Z)) (ct a<|ar Lib.zeros24 369) (z<|G a) 0 b).drewN p)from by
   rintro p b⟨i,hF⟩;constructor
   .have h:=vy (P:=bG) ((putRow (λ(j:UInt8)=>tC (j.toNat:Z)) (ct a<|ar Lib.zeros24 369) (z<|G a) 0 b).drewN p) 126 9 5 (R (z<|G a) 0) 24 (Lib.decDigits u) (by kernel_rfl) (by kernel_rfl) (by kernel_rfl) (λw r=>by
     rw[Lib.row_is_numeral hF w r,Lib.add_plain,World.cell?_drewN];exact cell?_putRow (λ(j:UInt8)=>tC (j.toNat:Z)) _ (z (G a)) 0 _ b q (by rw[hF.size,np]) w (by rw[hF.size];rw[Lib.decDigits_length]at r;exact r))
    rw[Lib.decDigits_length]at h;exact h
   .obtain⟨w,r⟩:=Lib.fin_at a (ar Lib.zeros24 369) b p 0;rw[r];exact Lib.below_grow _ a (ah _) p w)
  clear f g m t;unfold Lib.zeros24 at*;go_in
  go_wp2_with(first
   |(go_at_call 242;refine n.mono ?_;rintro k E⟨rfl,rfl⟩)
   |(go_at_call 243;refine l.mono ?_;rintro k F⟨rfl,p,b,rfl,hF⟩;have A:=(e p b hF).1;have v:=U (e p b hF).2;clear hF))
  go_ret;exact⟨rfl,v⟩
def tg(u:M)(b:u<18446744073709551616)(d:Pow a):cy bG 145 #[aH u,ap 10] a λg f=>g=aO (ai<|EX u)/\Below (z<|G a) a f:=by
 have h:=FR u b d;clear d;go_in
 go_wp2_with(go_at_call 205;refine h.mono ?_;rintro g i⟨rfl,c⟩;have e:=U c;clear c)
 go_ret;exact⟨rfl,e⟩
end
def Oy(l:cr UInt8):M:=l.foldl (λa d=>a*10+(d.toNat-48)) 0
def yV(u:M):Oy (Lib.decDigits u)=u:=by
 induction u using Nat.strongRecOn with
 |ind u a=>
  rw[Lib.decDigits];split
  .rename_i h;unfold Oy;simp[UInt8.toNat_ofNat'];omega
  .rename_i h;have:=a (u/10) (by omega);unfold Oy at*;rw[iJ,this];simp[UInt8.toNat_ofNat'];omega
def Xb:ab:=⟨#[116,97,98,108,101,45]⟩
def Yy:ab:=⟨#[108,111,103,45]⟩
def gP:ab:=⟨#[115,116,97,116,101]⟩
def uS:ab:=⟨#[115,116,97,116,101,46,110,101,119]⟩
def gI(u:M):ab:=Xb++EX u
def iM(u:M):ab:=Yy++EX u
def Mr(a b:ab):(a++b).data.toList=a.data.toList++b.data.toList:=by simp
def we(h:v=W):v.data.toList=W.data.toList:=by rw[h]
def uP(u:M):(gI u).data.toList=[116,97,98,108,101,45]++Lib.decDigits u:=by unfold gI;rw[Mr];rfl
def Bm(u:M):(iM u).data.toList=[108,111,103,45]++Lib.decDigits u:=by unfold iM;rw[Mr];rfl
def uQ(h:gI b=gI c):b=c:=by
 have:=we h;rw[uP,uP,List.append_cancel_left_eq]at this;rw[<-yV b,this,yV]
def mF(u v:M):gI u≠iM v:=by
 intro h;have:=we h;rw[uP,Bm]at this;simp at this
def vK(u:M):gI u≠gP:=by
 intro h;have:=we h;rw[uP]at this;simp[gP]at this
def Du(u:M):gI u≠uS:=by
 intro h;have:=we h;rw[uP]at this;simp[uS]at this
def sd(u:M):iM u≠gP:=by
 intro h;have:=we h;rw[Bm]at this;simp[gP]at this
def NP(u:M):iM u≠uS:=by
 intro h;have:=we h;rw[Bm]at this;simp[uS]at this
def Ip:gP≠uS:=by
 intro h;have:=we h;simp[gP,uS]at this
def Hk(u:M)(h:u<18446744073709551616):(EX u).size<=20:=by
 have a:(EX u).size=y (Lib.decDigits u):=by simp[EX,ByteArray.size]
 rw[a,Lib.decDigits_length];exact Lib.nDigits_le20 u h
def AV(u:M)(b:u<18446744073709551616)(d:Pow a):cy bG 201 #[aH u] a λg f=>g=aO (ai<|gI u)/\Below (z<|G a) a f:=by
 have h:=tg u b d;have i:=Hk u b;clear d;go_in
 go_wp2_with(go_at_call 145;refine h.mono ?_;rintro g j⟨rfl,c⟩;have e:=U c;clear c)
 go_ret;exact⟨rfl,e⟩
def vS(u:M)(b:u<18446744073709551616)(d:Pow a):cy bG 91 #[aH u] a λf w'=>f=aO (ai<|iM u)/\Below (z<|G a) a w':=by
 have h:=tg u b d;have g:=Hk u b;clear d;go_in
 go_wp2_with(go_at_call 145;refine h.mono ?_;rintro f i⟨rfl,c⟩;have e:=U c;clear c)
 go_ret;exact⟨rfl,e⟩
section
open Go.Shelf
def IU:Go.Shelf.Ren:=⟨λ|14=>246|16=>273|17=>274|19=>285|20=>286|21=>287|22=>288|23=>289|24=>290|25=>161|27=>293|26=>292|28=>294|29=>295|30=>241|31=>242|32=>243|33=>244|35=>239|34=>268|36=>269|37=>270|38=>271|39=>282|40=>283|n=>n,λ|9=>9|3=>3|22=>103|24=>50|25=>119|4=>4|34=>398|5=>5|36=>47|37=>126|0=>0|39=>400|21=>21|44=>407|47=>343|50=>410|48=>408|2=>2|52=>369|55=>371|59=>389|60=>96|20=>20|61=>390|65=>404|66=>405|67=>278|n=>n,λ|0=>5|1=>6|2=>2|3=>3|4=>4|n=>n⟩
def Uc:Go.Proofs.LaysPu.n14 bG IU:={mixed:=by kernel_rfl,f14:=func246.trans (bU H<|by kernel_rfl),f16:=func273.trans (bU H<|by kernel_rfl),f17:=func274.trans (bU H<|by kernel_rfl),f19:=func285.trans (bU H<|by kernel_rfl),f20:=func286.trans (bU H<|by kernel_rfl),f21:=func287.trans (bU H<|by kernel_rfl),f22:=func288.trans (bU H<|by kernel_rfl),f23:=func289.trans (bU H<|by kernel_rfl),f24:=func290.trans (bU H<|by kernel_rfl),f25:=func161.trans (bU H<|by kernel_rfl),f26:=func292.trans (bU H<|by kernel_rfl),f27:=func293.trans (bU H<|by kernel_rfl),f28:=func294.trans (bU H<|by kernel_rfl),f29:=func295.trans (bU H<|by kernel_rfl),f30:=func241.trans (bU H<|by kernel_rfl),f31:=func242.trans (bU H<|by kernel_rfl),f32:=func243.trans (bU H<|by kernel_rfl),f33:=func244.trans (bU H<|by kernel_rfl),f34:=func268.trans (bU H<|by kernel_rfl),f35:=func239.trans (bU H<|by kernel_rfl),f36:=func269.trans (bU H<|by kernel_rfl),f37:=func270.trans (bU H<|by kernel_rfl),f38:=func271.trans (bU H<|by kernel_rfl),f39:=func282.trans (bU H<|by kernel_rfl),f40:=func283.trans (bU H<|by kernel_rfl),t0:=underlying0,a0:=isAgg0,z0:=sizeOf0,v0:=zeroValue0,i0:=by kernel_rfl,t2:=underlying2,a2:=isAgg2,z2:=sizeOf2,v2:=zeroValue2,i2:=by kernel_rfl,t3:=underlying3,a3:=isAgg3,z3:=sizeOf3,v3:=zeroValue3,i3:=by kernel_rfl,t4:=underlying4,a4:=isAgg4,z4:=sizeOf4,v4:=zeroValue4,i4:=by kernel_rfl,t5:=underlying5,a5:=isAgg5,z5:=sizeOf5,v5:=zeroValue5,i5:=by kernel_rfl,t9:=underlying9,a9:=isAgg9,z9:=sizeOf9,v9:=zeroValue9,i9:=by kernel_rfl,t20:=underlying20,a20:=isAgg20,z20:=sizeOf20,v20:=zeroValue20,i20:=by kernel_rfl,t21:=underlying21,a21:=isAgg21,z21:=sizeOf21,v21:=zeroValue21,i21:=by kernel_rfl,t22:=underlying103,a22:=isAgg103,z22:=sizeOf103,v22:=zeroValue103,i22:=by kernel_rfl,t24:=underlying50,a24:=isAgg50,z24:=sizeOf50,v24:=zeroValue50,i24:=by kernel_rfl,t25:=underlying119,a25:=isAgg119,z25:=sizeOf119,v25:=zeroValue119,i25:=by kernel_rfl,t34:=underlying398,a34:=isAgg398,z34:=sizeOf398,v34:=zeroValue398,i34:=by kernel_rfl,c34:=by kernel_rfl,t36:=underlying47,a36:=isAgg47,z36:=sizeOf47,v36:=zeroValue47,i36:=by kernel_rfl,t37:=underlying126,a37:=isAgg126,z37:=sizeOf126,v37:=zeroValue126,i37:=by kernel_rfl,t39:=underlying400,a39:=isAgg400,z39:=sizeOf400,v39:=zeroValue400,i39:=by kernel_rfl,t44:=underlying407,a44:=isAgg407,z44:=sizeOf407,v44:=zeroValue407,i44:=by kernel_rfl,t47:=underlying343,a47:=isAgg343,z47:=sizeOf343,v47:=zeroValue343,i47:=by kernel_rfl,t48:=underlying408,a48:=isAgg408,z48:=sizeOf408,v48:=zeroValue408,i48:=by kernel_rfl,t50:=underlying410,a50:=isAgg410,z50:=sizeOf410,v50:=zeroValue410,i50:=by kernel_rfl,t52:=underlying369,a52:=isAgg369,z52:=sizeOf369,v52:=zeroValue369,i52:=by kernel_rfl,t55:=underlying371,a55:=isAgg371,z55:=sizeOf371,v55:=zeroValue371,i55:=by kernel_rfl,t59:=underlying389,a59:=isAgg389,z59:=sizeOf389,v59:=zeroValue389,i59:=by kernel_rfl,t60:=underlying96,a60:=isAgg96,z60:=sizeOf96,v60:=zeroValue96,i60:=by kernel_rfl,t61:=underlying390,a61:=isAgg390,z61:=sizeOf390,t65:=underlying404,a65:=isAgg404,z65:=sizeOf404,v65:=zeroValue404,i65:=by kernel_rfl,t66:=underlying405,a66:=isAgg405,z66:=sizeOf405,v66:=zeroValue405,i66:=by kernel_rfl,t67:=underlying278,a67:=isAgg278,z67:=sizeOf278,v67:=zeroValue278,i67:=by kernel_rfl,g0:=by kernel_rfl,m0:=by kernel_rfl,g1:=by kernel_rfl,m1:=by kernel_rfl,g2:=by kernel_rfl,m2:=by kernel_rfl,g3:=by kernel_rfl,m3:=by kernel_rfl,g4:=by kernel_rfl,m4:=by kernel_rfl}
def Mh(w:I)(e:TypeId)(s:ab):Below (z<|G w) w (Lib.bytesWorld w e s):=⟨rfl,rfl,rfl,by rw[Lib.bytesWorld_size];omega,λk a=>Lib.bytesWorld_at_old w e s k<|by omega⟩
def QT(w:I):cy bG 246 #[ai ⟨#[49]⟩,ap 10,ap 64] w λe a=>e=aO (dB #[aH 1,.nilIface])/\Y aB w a:=by
 have h:=Any.strconv_ParseUint_10_at64_ok Uc ⟨#[49]⟩ (by decide) 1 (by kernel_rfl) w;refine yY h ?_;rintro e a⟨rfl,rfl|rfl⟩;exact⟨rfl,Y.refl _ _⟩;exact⟨rfl,Y.aW (S:=aB)<|Mh w _ _⟩
def QM(w:I):cy bG 284 #[ai ⟨#[108,111,103,45,49]⟩,ai ⟨#[116,97,98,108,101,45]⟩] w λe a=>e=aO (aL bF)/\a=w:=by
 go_in
 go_wp2;go_ret;exact⟨rfl,rfl⟩
def Nw(w:I):cy bG 284 #[ai ⟨#[108,111,103,45,49]⟩,ai ⟨#[108,111,103,45]⟩] w λe a=>e=aO (aL bW)/\a=w:=by
 go_in
 go_wp2;go_ret;refine⟨?_,rfl⟩;kernel_rfl
def Wj(w:I):cy bG 245 #[ai ⟨#[108,111,103,45,49]⟩,ai ⟨#[116,97,98,108,101,45]⟩] w λe b=>e=aO (dB #[ai ⟨#[108,111,103,45,49]⟩,aL bF])/\b=w:=by
 have a:=QM w;have d:cy bG 272 #[ai ⟨#[108,111,103,45,49]⟩,ai ⟨#[116,97,98,108,101,45]⟩] w λe b=>e=aO (dB #[ai ⟨#[108,111,103,45,49]⟩,aL bF])/\b=w:=by(go_in);(go_wp2_with(go_at_call 284;refine a.mono ?_;rintro e c⟨rfl,f⟩;subst c));(go_ret2);exact⟨rfl,rfl⟩
 go_in
 go_wp2_with(go_at_call 272;refine d.mono ?_;rintro e c⟨rfl,f⟩;subst c)
 go_ret2
 exact⟨rfl,rfl⟩
def UP(w:I):cy bG 245 #[ai ⟨#[108,111,103,45,49]⟩,ai ⟨#[108,111,103,45]⟩] w λe b=>e=aO (dB #[ai ⟨#[49]⟩,aL bW])/\b=w:=by
 have a:=Nw w;have d:cy bG 272 #[ai ⟨#[108,111,103,45,49]⟩,ai ⟨#[108,111,103,45]⟩] w λe b=>e=aO (dB #[ai ⟨#[49]⟩,aL bW])/\b=w:=by(go_in);(go_wp2_with(go_at_call 284;refine a.mono ?_;rintro e c⟨rfl,f⟩;subst c));(go_ret2);refine⟨?_,rfl⟩;kernel_rfl
 go_in
 go_wp2_with(go_at_call 272;refine d.mono ?_;rintro e c⟨rfl,f⟩;subst c)
 go_ret2
 exact⟨rfl,rfl⟩
def Pz:EX 1=⟨#[49]⟩:=by
 unfold EX;rw[Lib.decDigits];simp
def NC(m:Pow a):cy bG 206 #[ai ⟨#[108,111,103,45,49]⟩] a λj p=>j=aO (dB #[aH 1,aL bW])/\Y aB a p:=by
 have e:=QT a;have b:=λW(h:Y aB a W)=>tg 1 (by omega)<|Pow.aw m h id;rw[Pz]at b;clear m;have l:=Wj a;have n:=UP a;go_in
 go_wp2_with fail
 apply l.mono;rintro j f⟨rfl,o⟩;subst f;go_wp2_with fail
 apply n.mono;rintro j f⟨rfl,o⟩;subst f;go_wp2_with fail
 apply e.mono;rintro j f⟨rfl,c⟩;have k:=b f c;have g:=U c;clear c b e l n;go_wp2_with fail
 apply k.mono;rintro j q⟨rfl,d⟩;have i:=U<|g.ci<|Y.aW (S:=aB) d;clear d k;go_wp2;go_ret2
 exact⟨rfl,i⟩
end
section
open Go.Shelf
def IT:Go.Shelf.Ren:=⟨λ|25=>161|n=>n,λ|9=>9|3=>3|4=>4|37=>126|0=>0|47=>343|5=>5|n=>n,λ|n=>n⟩
def Ub:Go.Proofs.LaysPu.n25 bG IT:={mixed:=by kernel_rfl,f25:=func161.trans (bU H<|by kernel_rfl),t0:=underlying0,a0:=isAgg0,z0:=sizeOf0,v0:=zeroValue0,i0:=by kernel_rfl,t3:=underlying3,a3:=isAgg3,z3:=sizeOf3,v3:=zeroValue3,i3:=by kernel_rfl,t4:=underlying4,a4:=isAgg4,z4:=sizeOf4,v4:=zeroValue4,i4:=by kernel_rfl,t5:=underlying5,a5:=isAgg5,z5:=sizeOf5,v5:=zeroValue5,i5:=by kernel_rfl,t9:=underlying9,a9:=isAgg9,z9:=sizeOf9,v9:=zeroValue9,i9:=by kernel_rfl,t37:=underlying126,a37:=isAgg126,z37:=sizeOf126,v37:=zeroValue126,i37:=by kernel_rfl,t47:=underlying343,a47:=isAgg343,z47:=sizeOf343,v47:=zeroValue343,i47:=by kernel_rfl}
def vp(s:ab)(w:I)(f:s.size<=281474976710656):cy bG 103 #[ai s] w λe a=>e=aO (ai s)/\Below (z<|G w) w a:=by
 have h:=AnyPu.stringslite_Clone Ub s w f;have d:cy bG 161 #[ai s] w λe a=>e=aO (ai s)/\Below (z<|G w) w a:=h;clear h;go_in
 go_wp2_with fail
 apply d.mono;rintro e g⟨rfl,b⟩;have c:=U b;clear b;go_wp2;go_ret;exact⟨rfl,c⟩
end
section
open Go.Shelf
def Lr:Go.Shelf.Ren:=⟨λ|190=>152|125=>191|258=>214|128=>238|129=>239|302=>250|303=>251|304=>252|305=>253|306=>254|307=>255|308=>256|309=>257|310=>258|333=>276|329=>263|330=>264|334=>277|335=>278|336=>279|344=>291|n=>n,λ|31=>192|9=>9|3=>3|46=>47|0=>0|51=>96|53=>103|4=>4|183=>357|182=>356|131=>362|5=>5|218=>383|222=>386|228=>396|229=>60|n=>n,λ|n=>n⟩
def Tryz.lays190:Go.Proofs.Lays.n190 bG Lr:={mixed:=by kernel_rfl,f125:=func191.trans (bU H<|by kernel_rfl),f128:=func238.trans (bU H<|by kernel_rfl),f129:=func239.trans (bU H<|by kernel_rfl),f190:=func152.trans (bU H<|by kernel_rfl),f258:=func214.trans (bU H<|by kernel_rfl),f302:=func250.trans (bU H<|by kernel_rfl),f303:=func251.trans (bU H<|by kernel_rfl),f304:=func252.trans (bU H<|by kernel_rfl),f305:=func253.trans (bU H<|by kernel_rfl),f306:=func254.trans (bU H<|by kernel_rfl),f307:=func255.trans (bU H<|by kernel_rfl),f308:=func256.trans (bU H<|by kernel_rfl),f309:=func257.trans (bU H<|by kernel_rfl),f310:=func258.trans (bU H<|by kernel_rfl),f329:=func263.trans (bU H<|by kernel_rfl),f330:=func264.trans (bU H<|by kernel_rfl),f333:=func276.trans (bU H<|by kernel_rfl),f334:=func277.trans (bU H<|by kernel_rfl),f335:=func278.trans (bU H<|by kernel_rfl),f336:=func279.trans (bU H<|by kernel_rfl),f344:=func291.trans (bU H<|by kernel_rfl),t0:=underlying0,a0:=isAgg0,z0:=sizeOf0,v0:=zeroValue0,t3:=underlying3,a3:=isAgg3,z3:=sizeOf3,v3:=zeroValue3,t4:=underlying4,a4:=isAgg4,z4:=sizeOf4,v4:=zeroValue4,t5:=underlying5,a5:=isAgg5,z5:=sizeOf5,v5:=zeroValue5,t9:=underlying9,a9:=isAgg9,z9:=sizeOf9,v9:=zeroValue9,t31:=underlying192,a31:=isAgg192,z31:=sizeOf192,v31:=zeroValue192,t46:=underlying47,a46:=isAgg47,z46:=sizeOf47,v46:=zeroValue47,t51:=underlying96,a51:=isAgg96,z51:=sizeOf96,v51:=zeroValue96,t53:=underlying103,a53:=isAgg103,z53:=sizeOf103,v53:=zeroValue103,t131:=underlying362,a131:=isAgg362,z131:=sizeOf362,v131:=zeroValue362,t182:=underlying356,a182:=isAgg356,z182:=sizeOf356,v182:=zeroValue356,t183:=underlying357,a183:=isAgg357,z183:=sizeOf357,v183:=zeroValue357,t218:=underlying383,a218:=isAgg383,z218:=sizeOf383,v218:=zeroValue383,t222:=underlying386,a222:=isAgg386,z222:=sizeOf386,v222:=zeroValue386,t228:=underlying396,a228:=isAgg396,z228:=sizeOf396,v228:=zeroValue396,t229:=underlying60,a229:=isAgg60,z229:=sizeOf60,v229:=zeroValue60}
def strs(a:cr ab):iU:=a.map Value.string
def IS(w:I):cy bG 239 #[aH 0] w λe a=>e=aO (ap 0)/\a=w:=by
 go_in
 go_wp2;go_ret;exact⟨by simp;kernel_rfl,rfl⟩
def NQ(w:I):cy bG 191 #[aH 0] w λe a=>e=aO (ap 0)/\a=w:=by
 have h:=IS w;go_in
 go_wp2_with(go_at_call 239;refine h.mono ?_;rintro e a⟨rfl,rfl⟩)
 go_wp2;go_ret;exact⟨rfl,rfl⟩
def Ja(w:I):cy bG 250 #[aK,ap 0,ap 0] w λe a=>e=aO (dB #[])/\a=w:=by
 go_in
 go_wp2;refine ld 1 ?_;rw[gX];go_wp2;go_end0;exact⟨rfl,rfl⟩
def TA(w:I):cy bG 214 #[aK,ap 0,ap 0,ap 0] w λe a=>e=aO (dB #[])/\a=w:=by
 have h:=Ja w;go_in
 go_wp2;refine ld 1 ?_;rw[gX];go_wp2_with fail
 apply h.mono;rintro e a⟨rfl,rfl⟩;go_wp2;refine cI (iP rfl _ _ _) rfl ?_;exact⟨rfl,rfl⟩
def Qm(w:I):cy bG 152 #[aK] w λe a=>e=aO (dB #[])/\a=w:=by
 have h:=TA w;have b:=NQ w;go_in
 go_wp2_with(first|(go_at_call 191;refine b.mono ?_;rintro e a⟨rfl,rfl⟩)|(go_at_call 214;refine h.mono ?_;rintro e a⟨rfl,rfl⟩))
 go_wp2;go_end0;exact⟨rfl,rfl⟩
def Ta(c:cr ab)(Q:a.ownsRow b 9 1 d (y c) (strs c))(hn:y c<=1000000000000):cy bG 152 #[d] a λD C=>D=aO (dB #[])/\∃P:cr ab,P.Perm c/\C.ownsRow b 9 1 d (y P) (strs P)/\Y (λB=>bV d=H B) a C:=by
 rcases Q.2 with⟨rfl,h0⟩|⟨u,t,h,rfl,E,v,O,F,K,q⟩;apply(Qm a).mono;rintro D C⟨rfl,rfl⟩;exact⟨rfl,c,nj _,Q,Y.refl _ _⟩;obtain⟨k,p⟩:∃k,c.map (λT=>T.data.toList)=k:=⟨_,rfl⟩;(have o:y k=y c:=by rw[<-p,cU]);(have e:∀j(l:j<y c),h[j]?=H (ai c[j]):=by intro j l;(have s:(h.toList.take<|y c*1)[j]?=(strs c)[j]?:=by rw[q]);rw[rf,lN l]at s;rw[<-wG,s];simp[strs,l]);(have V:Go.Sort.Holds encStr a u 0 k.toArray:=by intro j l;(have w:j<y c:=by simpa[o]using l);(have L:j<y k:=by omega);refine⟨?_,by simp[World.frozen?,v]⟩;rw[cQ,bN v,e j w];(have:k.toArray[j]! =c[j].data.toList:=by rw[getElem!_pos _ j<|by simpa using L];simp[<-p]);rw[this]);have W:=Any.slices_Sort_string Tryz.lays190 u 0 t k a V (ak v) (by omega);rw[o]at W;apply W.mono;rintro D C⟨rfl,X,A,rfl⟩;obtain⟨g,x⟩:∃g,k.mergeSort (λc a=>decide<|c<=a)=g:=⟨_,rfl⟩;(have f:g.Perm k:=by rw[<-x];exact List.mergeSort_perm _ _);rw[x];(have r:y g=y c:=by rw[f.length_eq,o]);(have m:(Go.Sort.grow (Go.Sort.putRow encStr (Go.Sort.ahead a X) u 0 g.toArray) A).heap[u]?=H (ar (Go.Sort.putCells encStr 0 g.toArray h) 9 (0,0)):=by show((a.heap.modify u _)++A)[u]?=_;rw[nt (by simp;exact ak v),qy,dw rfl,v];rfl);(have i:∀B,B<z (G a)->B≠u->(Go.Sort.grow (Go.Sort.putRow encStr (Go.Sort.ahead a X) u 0 g.toArray) A).heap[B]?=a.heap[B]?:=by intro B N n;show((a.heap.modify u _)++A)[B]?=_;rw[nt (by simp;exact N),qy,cW<|λD=>n D.symm]);refine⟨rfl,g.map<|λS=>⟨S.toArray⟩,?_,⟨by simp[strs],.inr ⟨u,t,_,by rw[cU,r],E,m,by rw[cU,r];exact O,F,by simpa[Go.Sort.putCells]using K,?_⟩⟩,rfl,rfl,rfl,?_,?_⟩;have s:=f.map (λS:cr UInt8=>(⟨S.toArray⟩:ab));rw[<-p,iQ]at s;(have w:c.map ((λS:cr UInt8=>(⟨S.toArray⟩:ab))∘λT=>T.data.toList)=c:=by(conv=>rhs;rw[<-List.map_id c]);apply nT;intro T _;simp);rw[w]at s;exact s;apply pO;intro j;rw[cU,r,rf];by_cases l:j<y c;rw[lN l];(have w:j<y g:=by omega);(have:(Go.Sort.putCells encStr 0 g.toArray h).toList[j]?=H (ai ⟨g[j].toArray⟩):=by rw[wG];unfold Go.Sort.putCells;rw[Array.getElem?_mapIdx,e j l];simp[w,encStr]);rw[this];simp[strs,w];rw[List.getElem?_take_eq_none (by omega),dl (by simp[strs];omega)];show z (G a)<=((a.heap.modify u _)++A).size;simp;intro B N n;exact i B N<|λD=>n (by rw[D];rfl)
end
