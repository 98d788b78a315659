import Derived.BigCall
import Derived.BigGuard
import Derived.BigRegion
import Derived.CellFam
import Derived.Ground.NamesProg
import Derived.Lib.AppendIntMem
import Derived.Lib.Hide
import Derived.Lib.ItoaLen
import Derived.Lib.ItoaMem
import Derived.Lib.ItoaWalk
import Derived.Lib.Walk
import Derived.Shelf.Strconv.Itoa1
import Derived.Shelf.Strconv.Itoa2
import Derived.Test.YtbgjhlkoccmfaaaGreatDoorC3
open _root_ renaming List.length→y,Option.some→M,Array.size→G,Go.World.heap→H,Go.Value.ownBlock→cN,Go.World.cell?→bA,Go.World.setCell→cP,Go.World.alloc→dw,Bool.false→bD,Bool.true→cz,Nat→R,Int→Y,List→cy,Go.Calls→cR,Go.undef→jm,Go.Proofs.Tryz.prog→bN,Go.Value.slice→am,Go.Value.string→aw,Go.Value.bool→aO,Go.Value.pointer→ee,Go.Value.tuple→de,Go.Value.agg→ef,Go.World.frozen?→iH,Go.World.ownsRow→fD,Go.Value.nilIface→ib,Go.Act.put→ig,Nat.reduceAdd→jZ,Go.RowKit.Below→gC,Bool→eN,Option.none→dE,rfl→z,Or.inl→J,Or.inr→bj
namespace Go.Proofs.YtbgjhlkoccmfaaaGreatDoor
open ChangeShapes WideShapes RowKit Proofs.Tryz List
set_option maxHeartbeats 16000000
set_option linter.all false
set_option maxRecDepth 100000
variable{a e P:Z}{b c k n T:R}{d w:ae}{f x:DK}{i:dB}{m:eD}{W:fB}{r:Y}{s:ju}{B:af}{L:la}{O:iF}{Q:iE}{S:E}
section
open Shelf
def OZ:Go.Shelf.Ren:=⟨λ|283=>243|n=>n,λ|3=>3|9=>9|4=>4|n=>n,λ|n=>n⟩
def Tryz.lays283:Go.Proofs.Lays.n283 bN OZ:={mixed:=by kernel_rfl,f283:=func243.trans (cD M<|by kernel_rfl),t3:=underlying3,a3:=isAgg3,z3:=sizeOf3,v3:=zeroValue3,t4:=underlying4,a4:=isAgg4,z4:=sizeOf4,v4:=zeroValue4,t9:=underlying9,a9:=isAgg9,z9:=sizeOf9,v9:=zeroValue9}
def OY:Go.Shelf.Ren:=⟨λ|284=>244|129=>173|317=>277|318=>278|n=>n,λ|53=>104|3=>3|212=>418|0=>0|4=>4|46=>68|5=>5|9=>9|n=>n,λ|17=>2|n=>n⟩
def Tryz.lays284:Go.Proofs.LaysM.n284 bN OY:={mixed:=by kernel_rfl,f129:=func173.trans (cD M<|by kernel_rfl),f284:=func244.trans (cD M<|by kernel_rfl),f317:=func277.trans (cD M<|by kernel_rfl),f318:=func278.trans (cD M<|by kernel_rfl),t0:=underlying0,a0:=isAgg0,z0:=sizeOf0,v0:=zeroValue0,t3:=underlying3,a3:=isAgg3,z3:=sizeOf3,v3:=zeroValue3,t4:=underlying4,a4:=isAgg4,z4:=sizeOf4,v4:=zeroValue4,t5:=underlying5,a5:=isAgg5,z5:=sizeOf5,v5:=zeroValue5,t9:=underlying9,a9:=isAgg9,z9:=sizeOf9,v9:=zeroValue9,t46:=underlying68,a46:=isAgg68,z46:=sizeOf68,v46:=zeroValue68,t53:=underlying104,a53:=isAgg104,z53:=sizeOf104,v53:=zeroValue104,t212:=underlying418,a212:=isAgg418,z212:=sizeOf418,v212:=zeroValue418,g17:=by kernel_rfl,i0:=by kernel_rfl,i3:=by kernel_rfl,i4:=by kernel_rfl,i5:=by kernel_rfl,i9:=by kernel_rfl,i46:=by kernel_rfl,i53:=by kernel_rfl,i212:=by kernel_rfl,m17:=by kernel_rfl}
def OX:Go.Shelf.Ren:=⟨λ|285=>245|n=>n,λ|37=>31|53=>104|3=>3|4=>4|51=>97|9=>9|5=>5|0=>0|n=>n,λ|n=>n⟩
def Tryz.lays285:Go.Proofs.Lays.n285 bN OX:={mixed:=by kernel_rfl,f285:=func245.trans (cD M<|by kernel_rfl),t0:=underlying0,a0:=isAgg0,z0:=sizeOf0,v0:=zeroValue0,t3:=underlying3,a3:=isAgg3,z3:=sizeOf3,v3:=zeroValue3,t4:=underlying4,a4:=isAgg4,z4:=sizeOf4,v4:=zeroValue4,t5:=underlying5,a5:=isAgg5,z5:=sizeOf5,v5:=zeroValue5,t9:=underlying9,a9:=isAgg9,z9:=sizeOf9,v9:=zeroValue9,t37:=underlying31,a37:=isAgg31,z37:=sizeOf31,v37:=zeroValue31,t51:=underlying97,a51:=isAgg97,z51:=sizeOf97,v51:=zeroValue97,t53:=underlying104,a53:=isAgg104,z53:=sizeOf104,v53:=zeroValue104}
end
section
open Shelf Go.Sort
def Pow(w:Z):Prop:=Lib.TabIs bN w "internal/strconv.uint64pow10" .u64 Lib.pow10Tab
def GI:prog.globalNamed "internal/strconv.uint64pow10" =M 2:=aH
def Pow.dU{w w':Z}(h:Pow w)(a:w'.heap[2]?=w.heap[2]?):Pow w':=by
 unfold Pow Lib.TabIs World.var? at*;rw[GI]at*;grind
def Pow.lt{w:Z}(h:Pow w):2<G (H w):=by
 unfold Pow Lib.TabIs World.var? at h;rw[GI]at h;grind
def Pow.aA{S:fB}{w w':Z}(h:Pow w)(c:I S w w')(a:¬S 2):Pow w':=h.dU<|c.A _ h.lt a
def Af(u:R):af:=⟨(Lib.decDigits u).toArray⟩
def IU(u:R)(c:u<18446744073709551616)(s:Pow a):cR bN 185 #[bw u,ay 10] a λm e=>m=aN (aw<|Af u)/\gC (G<|H a) a e:=by
 by_cases f:u<100;(.have b:∀W,cR bN 243 #[ay u] W λm e=>m=aN (aw<|Af u)/\e=W:=λW=>Any.internal_strconv_small Tryz.lays283 u f W;have d:(u:Y)<100:=U;(have g:IntKind.i64.wrap (u:Y)=(u:Y):=by rw[bR];omega);(go_in);(go_wp2_with(go_at_call 243;refine(b _).mono ?_;rintro m e⟨rfl,rfl⟩));go_ret;exact⟨z,Below.refl _ _⟩)
 .have l:1<=u:=U;have q:Lib.nDigits u<=20:=by have:=Lib.numDigits_eq u l c;split at this<;>omega
  have i:prog.arrayLen 385=24:=aH;have t:∀W,(Instr.sliceAt 385 (aJ<|G<|H a) dE (M<|ay (Lib.nDigits u:Y)) dE).run bN W=.ok (bX (G<|H a) 0 (Lib.nDigits u) 24) W:=λW=>by
   rw[run_sliceAt_array_h W 385 (X (G<|H a) 0) aH .i64 (Lib.nDigits u:Y) U (by rw[i];omega)];rw[i];have r:(sizeOf<|prog.elem 385).run bN W=.ok 1 W:=aH;rw[r];simp[Result.andThen,slicedAt,Lib.add_plain]
  have g:=Lib.holds_zero0 a 385 (Lib.nDigits u) U;have j:cR bN 245 #[bX (G<|H a) 0 (Lib.nDigits u) 24,bw u] (dw a<|aK Lib.zeros24 385) λm e=>
   m=aN (de #[])/\(∃(n:R)(b:Array UInt8),e=(putRow (λ(f:UInt8)=>sA (f.toNat:Y)) (dw a<|aK Lib.zeros24 385) (G<|H a) 0 b).drewN n/\∃o,Lib.FmtInv (Lib.nDigits u) u 0 o b):=by
    have:=Any.internal_strconv_formatBase10 Tryz.lays285 (G<|H a) 0 24 u (Array.replicate (Lib.nDigits u) 0) (dw a<|aK Lib.zeros24 385) g (pA▸Lib.lt_pow_nDigits u) c (by rw[pA];omega);rw[pA]at this;apply this.mono;grind
  have p:∀W,Pow W->cR bN 244 #[bw u] W λm e=>m=aN (ay<|Lib.nDigits u)/\e=W:=λW a=>Any.internal_strconv_numDigits Tryz.lays284 u l c W a;have k:=p (dw a<|aK Lib.zeros24 385)<|Lib.tabIs_alloc s _;have:(100:Y)<=(u:Y):=U;have d:=ak (show∀(n:R)(b:Array UInt8),(∃o,Lib.FmtInv (Lib.nDigits u) u 0 o b)->(convert 31 9<|bX (G<|H a) 0 (Lib.nDigits u) 24).run bN ((putRow (λ(f:UInt8)=>sA (f.toNat:Y)) (dw a<|aK Lib.zeros24 385) (G<|H a) 0 b).drewN n)=.ok (aw<|Af u) ((putRow (λ(f:UInt8)=>sA (f.toNat:Y)) (dw a<|aK Lib.zeros24 385) (G<|H a) 0 b).drewN n)/\gC (G<|H a) a ((putRow (λ(f:UInt8)=>sA (f.toNat:Y)) (dw a<|aK Lib.zeros24 385) (G<|H a) 0 b).drewN n)from by
   rintro n b⟨o,hF⟩;constructor
   .have h:=xU (P:=bN) ((putRow (λ(f:UInt8)=>sA (f.toNat:Y)) (dw a<|aK Lib.zeros24 385) (G<|H a) 0 b).drewN n) 31 9 5 (X (G<|H a) 0) 24 (Lib.decDigits u) aH aH aH (λv r=>by
     rw[Lib.row_is_numeral hF v r,Lib.add_plain,World.cell?_drewN];exact cell?_putRow (λ(f:UInt8)=>sA (f.toNat:Y)) _ (G (H a)) 0 _ b g (by rw[hF.size,pA]) v (by rw[hF.size];rwa[Lib.decDigits_length]at r))
    rwa[Lib.decDigits_length]at h
   .let⟨v,r⟩:=Lib.fin_at a (aK Lib.zeros24 385) b n 0;rw[r];exact Lib.below_grow _ a (aq _) n v)
  unfold Lib.zeros24 at*;go_in
  go_wp2_with(first
   |(go_at_call 244;refine k.mono ?_;rintro m w⟨rfl,rfl⟩)
   |(go_at_call 245;refine j.mono ?_;rintro m x⟨rfl,n,b,rfl,hF⟩;have:=(d n b hF).1;have HB:=ak (d n b hF).2))
  go_ret;exact⟨z,HB⟩
def sg(u:R)(b:u<18446744073709551616)(d:Pow a):cR bN 119 #[bw u,ay 10] a λf e=>f=aN (aw<|Af u)/\gC (G<|H a) a e:=by
 have h:=IU u b d;go_in
 go_wp2_with(go_at_call 185;refine h.mono ?_;rintro f g⟨rfl,c⟩;have HB:=ak c)
 go_ret;exact⟨z,HB⟩
end
def SZ(l:cy UInt8):R:=l.foldl (λa d=>a*10+(d.toNat-48)) 0
def Bi(u:R):SZ (Lib.decDigits u)=u:=by
 induction u using Nat.strongRecOn with
 |ind u a=>
  rw[Lib.decDigits];split
  .rename_i h;unfold SZ;grind[UInt8.toNat_ofNat']
  .rename_i h;have:=a (u/10) U;unfold SZ at*;rw[jR,this];grind[UInt8.toNat_ofNat']
def sW:af:=⟨#[116,97,98,108,101,45]⟩
def II:af:=⟨#[108,111,103,45]⟩
def fj:af:=⟨#[115,116,97,116,101]⟩
def kE:af:=⟨#[115,116,97,116,101,46,110,101,119]⟩
def jf(u:R):af:=sW++Af u
def gW(u:R):af:=II++Af u
def Qn(a b:af):(a++b).data.toList=a.data.toList++b.data.toList:=ar
theorem yN{b:af}(h:B=b):B.data.toList=b.data.toList:=by rw[h]
theorem xB(u:R):(jf u).data.toList=[116,97,98,108,101,45]++Lib.decDigits u:=by unfold jf;rw[Qn];rfl
theorem AN(u:R):(gW u).data.toList=[108,111,103,45]++Lib.decDigits u:=by unfold gW;rw[Qn];rfl
def Np(h:jf b=jf c):b=c:=by
 have:=yN h;rw[xB,xB,List.append_cancel_left_eq]at this;rw[<-Bi b,this,Bi]
def FZ(u v:R):jf u≠gW v:=by
 grind[yN,xB,AN]
def uw(u:R):jf u≠fj:=by
 intro h;have:=yN h;rw[xB]at this;simp[fj]at this
def Bx(u:R):jf u≠kE:=by
 intro h;have:=yN h;rw[xB]at this;simp[kE]at this
def rY(u:R):gW u≠fj:=by
 intro h;have:=yN h;rw[AN]at this;simp[fj]at this
def yA(u:R):gW u≠kE:=by
 intro h;have:=yN h;rw[AN]at this;simp[kE]at this
def uM(u:R)(h:u<18446744073709551616):(Af u).size<=20:=by
 have a:(Af u).size=y (Lib.decDigits u):=by simp[Af,ByteArray.size]
 rw[a,Lib.decDigits_length];exact Lib.nDigits_le20 u h
def Dx(u:R)(b:u<18446744073709551616)(d:Pow a):cR bN 181 #[bw u] a λf e=>f=aN (aw<|jf u)/\gC (G<|H a) a e:=by
 have h:=sg u b d;have:=uM u b;clear d;go_in
 go_wp2_with(go_at_call 119;refine h.mono ?_;rintro f g⟨rfl,c⟩;have HB:=ak c;clear c)
 go_ret;exact⟨z,HB⟩
def AM(u:R)(a:u<18446744073709551616){w:Z}(c:Pow w):cR bN 69 #[bw u] w λe w'=>e=aN (aw<|gW u)/\gC (G<|H w) w w':=by
 have h:=sg u a c;have:=uM u a;clear c;go_in
 go_wp2_with(go_at_call 119;refine h.mono ?_;rintro e d⟨rfl,b⟩;have HB:=ak b;clear b)
 go_ret;exact⟨z,HB⟩
def FP{f e g:Y}(h:mQ a b (ee dE) r f e g c k n d L):cR bN 200 #[aJ b] a λj i=>j=aN (aO bD)/\i=a:=by
 have:=aX h.g 0;clear h;go_in
 go_wp2;go_ret;simp_all
def Et(j:Addr){f e g:Y}(h:mQ a b (ee<|M j) r f e g c k n d L):cR bN 200 #[aJ b] a λl i=>l=aN (aO cz)/\i=a:=by
 have:=aX h.g 0;clear h;go_in
 go_wp2;go_ret;simp_all
def GZ(a c b d:Y):ae:=ef #[bw a,eI c,eI b,eI d]
def Ld{c:Func}{p:Tmp}(h:c.results=#[.cell p 234])(a:Array ae)(w:Z)(g:R)(e f i j:Y)(t:TypeId)(d:R×R)(m:a.getD p jm=aJ g)(k:w.heap[g]?=M (aK #[bw e,eI f,eI i,eI j] t d)):(results c a).run bN w=.ok (GZ e f i j) w:=by
 have b:a[p]?.getD jm=aJ g:=dV m;have l:=kP (P:=bN) w g t 234 #[bw e,eI f,eI i,eI j] d _ k underlying234 z aH;simp[results,h,b,asAddr,l,GZ]
def YM{f e g:Y}(h:mQ a b d r f e g c k n w L):cR bN 259 #[aJ b] a λj i=>j=aN (GZ r f e g)/\gC (G<|H a) a i:=by
 have:=aX h.g 1;have:=aX h.g 2;have:=aX h.g 3;have:=aX h.g 4;have:=az h.g;clear h;go_in
 go_wp2;exact ci (Ld z _ _ (G<|H a) r f e g _ _ z<|aQ _ z) z ⟨z,(Below.refl _ a).alloc (aq _) _⟩
theorem zA(l:R)(n:ae)(u:R)(e:u<18446744073709551616)(f c i:Y)(m d b:R)(g:ae)(p:la)(h:mQ a l n u f c i m d b g p)(k:Pow a):cR bN 128 #[aJ l] a λr q=>r=aN (aw<|jf u)/\gC (G<|H a) a q:=by
 have:=aX h.g 1;have o:=Dx u e k;clear h k;go_in
 go_wp2_with(go_at_call 181;refine o.mono ?_;rintro r s⟨rfl,j⟩;have HB:=ak j;clear j)
 go_ret;exact⟨z,HB⟩
def WT{p j v:Y}(q g AY d:R)(m:pS)(h:mQ a b (ee dE) r p j v c k n (bX q g AY d) L)(x:m.p+m.D<=AY)(F:AY<=d)(A:0<m.D)(K:AY<=1000000000000):cR bN 346 #[aJ b,m.t] a λE D=>E=aN (de #[bX q (g+m.p) m.D (d-m.p:R),ib])/\gC (G<|H a) a D:=by
 let⟨pos,e,f,first,i⟩:=m;simp only at x A;unfold pS.t;simp only;have t:=az h.g;have l:gC (G<|H a) a (dw a<|aK #[ay pos,ay e,ay f,aw first,aw i] 383):=(Below.refl _ a).alloc (aq _) _;have u:=FP<|h.dD l h.lt.1 h.lt.2;have:bA (dw a<|aK #[ay pos,ay e,ay f,aw first,aw i] 383) (X b 6)=M (bX q g AY d):=by rw[rG _ _ _ t,cE h.g];rfl
 have:∀(x:eN)(a:Z),(Op.unary .not<|aO x).run bN a=.ok (aO<|!x) a:=λ_ _=>rfl;let⟨s,C⟩:∃s,pos+e=s:=⟨_,rfl⟩;have:(pos:Y)+(e:Y)=(s:Y):=U;have:IntKind.i64.wrap (s:Y)=(s:Y):=by rw[bR];omega
 have:pos<s:=U;have:s<=AY:=U;have o:=ak (show e=s-pos by omega);clear h C;go_in
 go_wp2_with(go_at_call 200;refine u.mono ?_;rintro E N⟨rfl,rfl⟩)
 go_quiet(fail)
 go_wp2;go_ret2
 have w:=ag o;have B:=l;subst w;exact⟨z,below_drewN B _⟩
def zM(h:b<18446744073709551616):Nm (jf b):=by
 have:=uM b h;have:sW.size<=100:=cg;unfold Nm jf;rw[jT];omega
def wK(h:b<18446744073709551616):Nm (gW b):=by
 have:=uM b h;have:II.size<=100:=cg;unfold Nm gW;rw[jT];omega
def Sj:Nm kE:=by unfold Nm;decide
def tO:Nm fj:=by unfold Nm;decide
def I.df{a b c:Z}(h:I W a b)(j:(c.os,c.tape,c.output,c.heap)=(b.os,b.tape,b.output,b.heap)):I W a c:=by
 let⟨e,g,i,d⟩:c.os=b.os/\c.tape=b.tape/\c.output=b.output/\c.heap=b.heap:=dV j;exact⟨e.trans h.os,g.trans h.l,i.trans h.f,d▸h.D,λk b j=>d▸h.A k b j⟩
def cf(S:fB)(w:Z):I S w w.drew:=⟨rfl,rfl,rfl,aq _,λ_ _ _=>rfl⟩
def gO(S:fB)(w:Z)(q:R):I S w (w.drewN q):=⟨rfl,rfl,rfl,aq _,λ_ _ _=>rfl⟩
def cJ.YG(h:cJ a b f){k:Array ae}{t:TypeId}{l:R×R}(e:a.heap[c]?=M (aK k t l))(n:t≠89)(q:t≠135)(r:t≠154)(o:t≠93)(s:t≠5):¬f.j b c:=by
 rintro(rfl|rfl|rfl|g|⟨x,p,g⟩|⟨u,j,rfl|g⟩);exact lj e h.S n z;exact h.l.pZ e z;exact h.D.pZ e z;let⟨d,i⟩:=fZ h.o g;grind
 let⟨d,m,i⟩:=(h.bZ x p).2.2 c g;grind
 exact lj e (h.dq j).1 o z;let⟨d,i⟩:=fZ (h.dq j).2.1 g;grind
def BgP(w a:Z)(c u:R)(K:DK)(pos n:R)(f:Ending):Prop:=∃b,pR w a c K b/\wR K b/\(∀k,b.j c k->K.j c k)/\((∃d F,ii K.ah (jf u)=M F/\f=aN (de #[d,ib])/\Bytes a d ((F.bB.drop pos).take n)/\∀k,cN d=M k->k<G (H a))\/∃q e,f=aN (de #[aF,eW q])/\rC a q e/\1<=e)
def WU(D:k<18446744073709551616){u av:Y}{A m:R}(bb:pS)(h:mQ a b (aJ c) k r u av n A m d L)(hd:cJ a c f)(h3:bb.D<=1000000)(hp:Pow a):cR bN 346 #[aJ b,bb.t] a λax o=>BgP a o c k f bb.p bb.D ax:=by
 let⟨pos,e,j,first,v⟩:=bb;simp only at h3;unfold pS.t;simp only;have bg:=az h.g;have l:gC (G<|H a) a (dw a<|aK #[ay pos,ay e,ay j,aw first,aw v] 383):=(Below.refl _ a).alloc (aq _) _;have g:=h.dD l h.lt.1 h.lt.2;have ao:=Et (X c 0) g;have bc:∀(bd:eN)(a:Z),(Op.unary .not<|aO bd).run bN a=.ok (aO<|!bd) a:=λ_ _=>rfl;have F:=aX g.g 0;let⟨i,s⟩:∃i,i=dw a (aK #[ay pos,ay e,ay j,aw first,aw v] 383):=⟨_,rfl⟩;have w:Cf i (G<|H a) ⟨pos,e,j,first,v⟩:=by rw[s];exact aQ _ z
 have ap:G (H i)=G (H a)+1:=by rw[s];simp
 have B:b<G (H i):=U;rw[<-s]at l g ao F;have ab:bA i (X (G<|H a) 0)=M (ay pos):=w.bU.1;have ac:bA i (X (G<|H a) 1)=M (ay e):=w.bU.2.1;have Q:Pow i:=hp.aA (S:=aC) (I.p l)<|λO=>O;have P:cJ i c f:=hd.aA (S:=aC) (I.p l)<|λ_ _ O=>O;have HN:=ak (show∀W,W.heap=i.heap->cR bN 128 #[aJ b] W λax o=>ax=aN (aw<|jf k)/\gC (G<|H W) W o fromλW E=>zA b (aJ c) k D r u av n A m d L ⟨by rw[E];exact g.g,λj bd e=>by rw[dZ (w:=i)<|by rw[E]];exact g.bU j bd e,g.ne,g.le,g.f⟩<|Q.dU<|by rw[E]);have ad:¬f.j c b:=hd.YG h.g cg cg cg cg cg;have K:¬f.j c (G<|H a):=λO=>bP<|hd.lt _ O
 have HR:=ak (show∀W,gC (G<|H i.drew) i.drew W->cR bN 121 #[aJ c,aw<|jf k,ay pos,ay e] W λax o=>∃v d,ax=aN (de #[v,d])/\(bA o (X b 0)=M (aJ c)/\bA o (X (G<|H a) 0)=M (ay pos)/\bA o (X (G<|H a) 1)=M (ay e))/\BgP a o c k f pos e (aN<|de #[v,d])fromλW aV=>by
  have E:I aC i W:=(cf _ i).t<|I.p (S:=aC) aV;have aU:=P.aA E<|λ_ _ O=>O;have an:pR a W c f f:=((pR.bI hd).bH<|I.p l).bH E;go_call GC (jf k) pos e aU U (zM D)as ax o⟨K',t,al,aa,hr⟩;have N:I (f.j c) i o:=(E.aT (T:=f.j c) cY).aj t.aA<|λ_ O=>J O;have V:bA o (X b 0)=M (aJ c)/\bA o (X (G<|H a) 0)=M (ay pos)/\bA o (X (G<|H a) 1)=M (ay e):=⟨N.u F ad B,N.u ab K U,N.u ac K U⟩;obtain⟨v',bl,hg,rfl,ho⟩|⟨q,O,rfl,hq⟩:=hr
  .exact⟨_,_,z,V,K',an.aj t,al,aa,J ⟨v',bl,hg,z,ho.bB,λbb a=>(fy.lt ho bb a).2⟩⟩
  .exact⟨_,_,z,V,K',an.aj t,al,aa,bj ⟨q,O,z,hq⟩⟩)
 let⟨HB,HW,HZ,bf⟩:=jr l s ap w;have C:G (H a)<G (H i):=U;clear h l hd hp g Q P w ap s ad K;go_in
 go_wp2_with(go_at_call 200;rw[<-(ag HW)];refine ao.mono ?_;rintro ax w1⟨rfl,ba⟩;subst ba)
 go_region_held3(λd=>bA d (X b 0)=M (aJ c)/\bA d (X (G<|H a) 0)=M (ay pos)/\bA d (X (G<|H a) 1)=M (ay e)) (first|assumption|go_keep) (first
  |(go_at_call 128;go_loud(refine(HN w1.drew z).mono ?_;rintro ax w2⟨rfl,x⟩;have bh:bA w2 (X b 0)=M (aJ c)/\bA w2 (X (G<|H a) 0)=M (.int .i64 pos)/\bA w2 (X (G<|H a) 1)=M (.int .i64 e):=⟨(x.cell (p:=(X b 0)) B).trans (by rw[cL];exact F),(x.cell (p:=(X (G<|H a) 0)) C).trans (by rw[cL];exact ab),(x.cell (p:=(X (G<|H a) 1)) C).trans (by rw[cL];exact ac)⟩;have aD:=ak x))
  |(go_at_call 121;go_loud(refine(HR w2 aD).mono ?_;rintro ax w3⟨rv,bk,rfl,bi,r1⟩;have R1:=ak r1)))
 go_wp2;go_ret2
 exact R1
def gD(a:iF):eD:=(a.map<|λc=>ij<|iG c).flatten
theorem iA(a:eD):y (ij a)=y a+4:=by simp[ij,dh]
theorem qS(c:dB)(a:iF):gD (c::a)=ij (iG c)++gD a:=by simp[gD]
theorem Mn(b a:iF):gD (b++a)=gD b++gD a:=by simp[gD]
def EP(a:iF)(i:R)(h:i<y a):gD a=gD (a.take i)++(ij (iG a[i])++gD (a.drop<|i+1)):=by
 grind[take_append_drop,drop_eq_getElem_cons,Mn,qS]
def Ta(a:iF)(b:eD)(i:R)(h:i<y a):((gD a++b).drop<|y<|gD<|a.take i).take (y (iG a[i])+4)=ij (iG a[i]):=by
 rw[EP a i h,cw,pw,cw,<-iA,rL]
def Ui(a:iF)(i:R)(h:i<y a):y (gD<|a.take i)+(y (iG a[i])+4)<=y (gD a):=by
 rw[EP a i h];simp[iA]
structure Tp(ks:la)(cs:iF):Prop where
 dL:y ks=y cs
 ne:0<y cs
 l:∀i(hi:i<y ks)(hc:i<y cs),ks[i].Of cs[i]
 p:∀i(hi:i<y ks),ks[i].p=y (gD<|cs.take i)
 S:∀c∈cs,∀x∈c,x.Good
 o:gF cs.flatten
 L:cs.Pairwise lI
 f:∀c∈cs,y c<=1000
structure vP(ks:la)(cs:iF):Prop where
 dL:y ks=y cs
 ne:0<y cs
 l:∀i(hi:i<y ks)(hc:i<y cs),ks[i].Fl cs[i]
 S:∀c∈cs,∀x∈c,x.Good
 o:gF cs.flatten
 L:cs.Pairwise lI
 f:∀c∈cs,y c<=1000
def Tp.zx(h:Tp L O):vP L O:=⟨h.dL,h.ne,λi b a=>⟨(h.l i b a).ne,(h.l i b a).eJ,(h.l i b a).eP⟩,h.S,h.o,h.L,h.f⟩
def Bytes.bM{V:ju}{n0:R}{S:fB}(h:Bytes a d m)(j:kZ V n0 S a e)(l:∀k,cN d=M k->k<n0/\¬V.F k):Bytes e d m:=by
 obtain⟨rfl,rfl⟩|⟨n,b,c,rfl,f,g⟩:=h;exact J ⟨z,z⟩;exact bj ⟨n,b,c,z,f,λk i=>j.u (bj<|l n z)<|g k i⟩
def Ml(i:Prop)(b:R)(a:DK)(F:fB):ju where
 Xp:=i
 D W:=(∀k,F k->k<G (H W))/\∃K,cJ W b K/\wR a K/\(∀k,K.j b k->F k)/\Fx a.fx K.fx
 F:=F
 l:=by
  rintro w m S⟨d,K,e,f,g,h⟩c j;exact⟨λk a=>au (d k a) c.D,K,e.aA c aI,f,g,h⟩
 lt:=by
  grind
def VY:(prog.info? 383).map (λi=>(i.zero,i.size,i.bytes))=M (M<|ef #[ay 0,ay 0,ay 0,aw ⟨#[]⟩,aw ⟨#[]⟩],5,56):=aH
def Tk(w:Z)(x a m9 u v:ae)(t:TypeId):∀j q,[x,a,m9,u,v][j]?=M q->bA (dw w<|aK #[x,a,m9,u,v] t) (((X (G<|H w) 0):Addr).add j)=M q:=by
 intro j q b;rw[dS];simp_all
def I.fU(h:fm a e d w):I (λk=>cN d=M k) a e:=I.eF h.dF<|λ_ b=>J b
def fE.aA{w w':Z}{b:R}{t:TypeId}{S:fB}(h:fE w b d t)(c:I S w w')(a:¬S b):fE w' b d t:=(c.A b (az h) a).trans h
def fJ(w:Z)(b i:R)(u:ae):I (λk=>k=b) w (cP w (X b i) u):=(I.bI (λk=>k=b) w).aL b i u<|J rfl
structure nr(W:Z)(base bl bd bp bk bf bt:R)(lv dv pv kv:ae)(fr to:R)(ds ps:eD)(ks:la):Prop where
 l:fE W bl lv 103
 d:fE W bd dv 31
 p:fE W bp pv 31
 k:fE W bk kv 319
 f:fE W bf (ay fr) 3
 t:fE W bt (ay to) 3
 od:fy W base dv ds
 op:fy W base pv ps
 ok:fD W base 383 5 kv (y ks) (fK ks)
 ne:∀x,cN dv=M x->cN pv≠M x
 o:bl<bd/\bd<bp/\bp<bk/\bk<bf/\bf<bt/\bt<base
 D:base<=G (H W)
def Ip(a:la)(k:pS):fK (a++[k])=fK a++k.bU:=by simp[fK]
def nr.mP{g n j o bk l p:R}{i f:ae}{q:eD}(h:nr a g n j o bk l p d w i f b c m q L)(r:k<g):¬(cN w=M k)/\¬(cN i=M k)/\¬(cN f=M k):=⟨λe=>bP<|(h.od.lt k e).1,λe=>bP<|(h.op.lt k e).1,λe=>bP<|(aS h.ok k e).1⟩
theorem kY{i:R}(h:fD a b c k d n Q)(f:T<b):fD (cP a (X T i) w) b c k d n Q:=(fJ a T i w).aZ h<|λg e j=>bP<|(aS h g e).1
def nr.kd{s l j n bk k o:R}{i g:ae}{t:eD}(h:nr a s l j n bk k o d w i g b c m t L):(∀x,cN g=M x->cN w≠M x)/\(∀x,cN g=M x->cN i≠M x):=by
 constructor;intro x p e;let⟨c1,q⟩:=fZ h.ok p;let⟨c2,r⟩:=fZ h.od e;grind
 intro x p e;let⟨c1,q⟩:=fZ h.ok p;let⟨c2,r⟩:=fZ h.op e;grind
def nr.TS{k o m i bk n p:R}{l r f:ae}{q x ps1:eD}(h:nr a k o m i bk n p d w l r b c q x L)(g:I (λC=>cN l=M C) a e)(v:cN f=cN l\/∃t,cN f=M t/\G (H a)<=t)(u:fy e k f ps1):nr (cP e (X i 0) f) k o m i bk n p d w f r b c q ps1 L:=by
 have D:=h.o;refine⟨(h.l.aA g (h.mP U).2.1).dN _ U,(h.d.aA g (h.mP U).2.1).dN _ U,(h.p.aA g (h.mP U).2.1).gq _,(h.k.aA g (h.mP U).2.1).dN _ U,(h.f.aA g (h.mP U).2.1).dN _ U,(h.t.aA g (h.mP U).2.1).dN _ U,kY (g.aZ h.od h.ne) U,kY u U,kY (g.aZ h.ok h.kd.2) U,λE A j=>?_,D,by rw[gJ];exact aR h.D g.D⟩;obtain s|⟨t,s,B⟩:=v;exact h.ne E A<|s▸j;rw[s]at j;cases j;have:=(h.od.lt _ A).2;omega
def nr.r9{j n k o bk l p:R}{t r g:ae}{s:eD}{x ks1:la}(h:nr a j n k o bk l p d w t r b c m s x)(f:I (λq=>cN r=M q) a e)(v:fD e j 383 5 g (y ks1) (fK ks1)):nr (cP e (X bk 0) g) j n k o bk l p d w t g b c m s ks1:=by
 have A:=h.o;exact⟨(h.l.aA f (h.mP U).2.2).dN _ U,(h.d.aA f (h.mP U).2.2).dN _ U,(h.p.aA f (h.mP U).2.2).dN _ U,(h.k.aA f (h.mP U).2.2).gq _,(h.f.aA f (h.mP U).2.2).dN _ U,(h.t.aA f (h.mP U).2.2).dN _ U,kY (f.aZ h.od<|λq u i=>h.kd.1 q i u) U,kY (f.aZ h.op<|λq u i=>h.kd.2 q i u) U,kY v U,h.ne,A,by rw[gJ];exact aR h.D f.D⟩
def nr.A{l n k o bk m p:R}{t r g:ae}{v ds1 s:eD}(h:nr a l n k o bk m p d w t r b c v s L)(i:I (λC=>cN w=M C) a e)(B:cN g=cN w\/∃x,cN g=M x/\G (H a)<=x)(A:fy e l g ds1):nr (cP e (X k 0) g) l n k o bk m p d g t r b c ds1 s L:=by
 have E:=h.o;refine⟨(h.l.aA i (h.mP U).1).dN _ U,(h.d.aA i (h.mP U).1).gq _,(h.p.aA i (h.mP U).1).dN _ U,(h.k.aA i (h.mP U).1).dN _ U,(h.f.aA i (h.mP U).1).dN _ U,(h.t.aA i (h.mP U).1).dN _ U,kY A U,kY (i.aZ h.op<|λC q j=>h.ne C j q) U,kY (i.aZ h.ok h.kd.1) U,λK q j=>?_,E,by rw[gJ];exact aR h.D i.D⟩;obtain u|⟨x,u,D⟩:=B;exact h.ne K (u▸q) j;rw[u]at q;cases q;have:=(h.op.lt _ j).2;omega
def nr.Hx{o i g f bk e j:R}{l r n:ae}{p:eD}(h:nr a o i g f bk e j d l r n b k m p L):nr (cP (cP a (X f 0) aF) (X e 0)<|ay k) o i g f bk e j d l aF n k k m [] L:=by
 have u:=h.o;exact⟨(h.l.dN _ U).dN _ U,(h.d.dN _ U).dN _ U,(h.p.gq _).dN _ U,(h.k.dN _ U).dN _ U,(h.f.dN _ U).gq _,(h.t.dN _ U).dN _ U,kY (kY h.od U) U,fy.kj _ _,kY (kY h.ok U) U,(λx _ t=>by cases t),u,by rw[gJ,gJ];exact h.D⟩
def nr.zei{l i g f bk e j:R}{o k:ae}{n:eD}(h:nr a l i g f bk e j d w o k b c m n L):nr (cP (cP a (X e 0)<|ay c) (X f 0) aF) l i g f bk e j d w aF k c c m [] L:=by
 have q:=h.o;exact⟨(h.l.dN _ U).dN _ U,(h.d.dN _ U).dN _ U,(h.p.dN _ U).gq _,(h.k.dN _ U).dN _ U,(h.f.gq _).dN _ U,(h.t.dN _ U).dN _ U,kY (kY h.od U) U,fy.kj _ _,kY (kY h.ok U) U,(λx _ p=>by cases p),q,by rw[gJ,gJ];exact h.D⟩
def nr.at{s n g o bk j e:R}{q u r:ae}{t:eD}(h:nr a s n g o bk j e d q u r c k m t L)(v:R):nr (cP a (X e 0)<|ay v) s n g o bk j e d q u r c v m t L:=by
 have x:=h.o;exact⟨h.l.dN _ U,h.d.dN _ U,h.p.dN _ U,h.k.dN _ U,h.f.dN _ U,h.t.gq _,kY h.od U,kY h.op U,kY h.ok U,h.ne,x,by rw[gJ];exact h.D⟩
def wQ(a b:R)(c e d:ae)(x:R):Prop:=(a<=x/\x<=b)\/cN c=M x\/cN e=M x\/cN d=M x
def nr.da{o e k n bk l g:R}{j i:ae}{p:eD}(h:nr a o e k n bk l g d w j i b c m p L):∀x,wQ e g w j i x->e<=x:=by
 have:=h.o;rintro x(⟨f,_⟩|f|f|f);exact f;have:=(h.od.lt x f).1;omega;have:=(h.op.lt x f).1;omega;have:=(aS h.ok x f).1;omega
def nr.aA{W w':Z}{s j e n bk g o:R}{q u r:ae}{t:eD}(h:nr W s j e n bk g o d q u r c k m t L)(a:I aC W w'):nr w' s j e n bk g o d q u r c k m t L:=⟨h.l.aA a id,h.d.aA a id,h.p.aA a id,h.k.aA a id,h.f.aA a id,h.t.aA a id,a.aZ h.od<|λ_ _ p=>p,a.aZ h.op<|λ_ _ p=>p,a.aZ h.ok<|λ_ _ p=>p,h.ne,h.o,aR h.D a.D⟩
def nr.XB{s j p r bk q l:R}{o n:ae}{t:eD}(h:nr a s j p r bk q l d w o n b c m t L)(f:I W a e)(g:∀k,wQ j l w o n k->¬W k):nr e s j p r bk q l d w o n b c m t L:=by
 have:=h.o;exact⟨h.l.aA f<|g _<|J ⟨U,U⟩,h.d.aA f<|g _<|J ⟨U,U⟩,h.p.aA f<|g _<|J ⟨U,U⟩,h.k.aA f<|g _<|J ⟨U,U⟩,h.f.aA f<|g _<|J ⟨U,U⟩,h.t.aA f<|g _<|J ⟨U,U⟩,f.aZ h.od<|λk i=>g k<|bj<|J i,f.aZ h.op<|λk i=>g k<|bj<|bj<|J i,f.aZ h.ok<|λk i=>g k<|bj<|bj<|bj i,h.ne,h.o,aR h.D f.D⟩
def nr.xQ{o f k n bk l g:R}{j i:ae}{p:eD}(h:nr a o f k n bk l g d w j i b c m p L):∀x,wQ f g w j i x->x<G (H a):=by
 have:=h.o;have:=h.D;rintro x(⟨_,e⟩|e|e|e);omega;exact(h.od.lt x e).2;exact(h.op.lt x e).2;exact(aS h.ok x e).2
def I.da(h:I W a e)(g:∀x,W x->b<=x)(i:c<b)(f:bA a (X c k)=M d):bA e (X c k)=M d:=h.u f aI<|cA a (X c k) f
def lN{P:Program}{w:Oper}{v:Act}{aa:Act->Z->Prop}{an:Exit->Act->Z->Prop}(ad al:Operand)(x:TypeId)(n:w.op=Op.call {callee:=Callee.builtin Builtin.append,args:=#[ad,al],argTypes:=#[x,x]})(k:R)(s:TypeId)(t:TypeInfo)(m9:ae)(b bytes:R)(S:P.underlying x=M (.slice s))(L:P.info? s=M t)(W:t.zero=M m9)(g:t.size=b)(m:t.bytes=bytes)(p:m9.cells.size=b)(o:0<b)(B:ae)(u:R)(q:iE)(Q:v.eval ad=B)(h:fD a k s b B u q)(l:Addr)(r ab:R)(c:iE)(V:v.eval al=am (M l) r ab)(N:y c=r*b)(f:∀ac A,c[ac]?=M A->bA a (l.add ac)=M A)(C:∀A∈c,A.oneCell'=cz)(hn:u+r<=140737488355328)(d:(u+r)*bytes<=140737488355328)(e:k<=G (H a))(K:∀i j,fD j k s b i (u+r) (q++c)->fm a j B i->aa (v.put w.dst i) j):Oper.wp P w v a aa an:=by
 let⟨i,j,O,D,E,_,F⟩:=oW (P:=P) a k x w.type s t m9 b bytes S L W g m p o B u q h l r ab c N f C (by unfold maxLen;omega) d e;unfold Oper.wp;simp[execOp,n,resolve,invoke,builtin,Q,V,O,Result.andThen];exact K i j D<|fm.of E F
def vO(h:Bytes a (bX b c k n) m):∀j u,(m.map<|Value.int .u8)[j]?=M u->bA a (((X b c):Addr).add j)=M u:=by
 intro j u i;rw[dS];obtain⟨h,_⟩|⟨f,e,d,h,_,g⟩:=h;cases h;grind
def M6{W s t n bk C o:R}(aa e p bg:R){kv:ae}(t1:R){g:eD}(P Q:af)(h:nr a W s t n bk C o (bX aa e bg p) d w kv b c m g L)(hT:Steps a)(hg:aa<s)(c0:bA a (X aa<|e+b*4)=M (aw P))(c1:bA a (X aa<|e+t1*4)=M (aw Q))(ds:b<bg)(eb:t1<bg)(co:c=t1+1)(dv:b<=t1)(hL:bg<=1000000000)(dr:y m<=100000000000)(ea:y g<=100000)(dx:y L<=1000000000):cR bN 252 #[aJ n,aJ bk,aJ t,aJ o,aJ C,aJ s] a λcT w'=>
 cT=aN (de #[])/\(∃ab ao,nr w' W s t n bk C o (bX aa e bg p) ab aF ao c c (m++ij g) [] (L++[⟨y m,y g+4,c-b,P,Q⟩])/\(∀B,cN ab=M B->cN d=M B\/G (H a)<=B)/\(∀B,cN ao=M B->cN kv=M B\/G (H a)<=B))/\I (wQ s o d w kv) a w':=by
 let⟨i0,cj,cu,cv,cx⟩:=cZ VY
 let⟨j0,ck,cp,cr,cs⟩:=cZ pL
 have db:=h.o
 have cn:=h.D
 have bt:=Gr hT h.op cn U
 let⟨F,E,ce⟩:=aM h.od
 obtain⟨N,K,cm⟩:=aM h.ok
 subst ce
 subst cm
 have q1:=h.p.u
 have q2:=h.p.bS
 have u:=h.da
 have bh:=ak c0
 have bi:=ak c1
 let⟨MY,bd⟩:∃MY,c-b=MY:=⟨_,rfl⟩
 rw[bd]
 have e1:(c:Y)-(b:Y)=(MY:Y):=U
 have e2:(c:Y)-1=(t1:Y):=U
 have e3:IntKind.i64.wrap (MY:Y)=(MY:Y):=by rw[bR];omega
 have e4:IntKind.i64.wrap (t1:Y)=(t1:Y):=by rw[bR];omega
 have e5:(b:Y)<(bg:Y):=U
 have e6:(t1:Y)<(bg:Y):=U
 have cb:=ak (show∀r w1,fy w1 W r (g++le 4 (pt g))->fm a w1 w r->∃pb i pc,r=bX pb i (y g+4) pc/\(bA w1 (X n 0)=M w/\iH w1 (X n 0)=bD)/\nr (cP w1 (X n 0) r) W s t n bk C o (bX aa e bg p) (am F (y m) E) r (am N (y L) K) b c m (g++le 4 (pt g)) L/\I (wQ s o (am F (y m) E) w<|am N (y L) K) a (cP w1 (X n 0) r)from by
  intro r w1 ac O;have q:y (g++le 4 (pt g))=y g+4:=by simp[dh]
  have S:=h.p.aA (I.fU O) (h.mP U).2.1;have f:=h.TS (I.fU O) O.f ac;have v:=((I.fU O).aT (T:=wQ s o (am F (y m) E) w<|am N (y L) K)<|λB A=>J<|bj<|bj<|J A).aL n 0 r<|J<|J ⟨U,U⟩;obtain⟨_,h0⟩|⟨pb,i,pc,h0,h1⟩:=ac.bB.fR
  .rw[h0]at q;simp at q
  grind[fE.u,fE.bS])
 clear h hT c0 c1 co bd
 go_in
 go_wp2_with(go_at_call 228;refine bt.mono ?_;rintro cT w1⟨r,rfl,ac,O⟩;obtain⟨pb,i,pc,rfl,⟨cd,ch⟩,f,v⟩:=cb r w1 ac O;have bo:=ak f;have bn:=ak v;clear f v ac O)
 have f:=ag bo
 have v:=ag bn
 clear bo bn cd ch
 generalize cP w1 (X n 0) (bX pb i (y g+4) pc)=l at*
 clear bt q1 q2
 have k0:bA l (X aa<|e+b*4)=M (aw P):=v.da u hg bh
 have k1:bA l (X aa<|e+t1*4)=M (aw Q):=v.da u hg bi
 have l1:=f.l.u
 have l2:=f.d.u
 have l3:=f.p.u
 have l4:=f.k.u
 have l5:=f.f.u
 have l6:=f.t.u
 have bp:=ak (show∀(V:Obj)D k,fD k W 383 5 D (y L+1) (fK L++[ay<|y m,ay<|(y g:Y)+4,ay MY,aw P,aw Q])->fm (dw l V).drew k (am N (y L) K) D->nr (cP k (X bk 0) D) W s t n bk C o (bX aa e bg p) (am F (y m) E) (bX pb i (y g+4) pc) D b c m (g++le 4 (pt g)) (L++[⟨y m,y g+4,MY,P,Q⟩])/\I (wQ s o (am F (y m) E) w<|am N (y L) K) a (cP k (X bk 0) D)/\(bA k (X aa<|e+b*4)=M (aw P)/\bA k (X aa<|e+t1*4)=M (aw Q)/\bA k (X s 0)=M (bX aa e bg p)/\bA k (X t 0)=M (am F (y m) E)/\bA k (X n 0)=M (bX pb i (y g+4:R) pc)/\bA k (X C 0)=M (ay b)/\bA k (X o 0)=M (ay c))/\bA k (X bk 0)=M (am N (y L) K)/\(bA (cP k (X bk 0) D) (X aa<|e+b*4)=M (aw P)/\bA (cP k (X bk 0) D) (X aa<|e+t1*4)=M (aw Q)/\bA (cP k (X bk 0) D) (X s 0)=M (bX aa e bg p)/\bA (cP k (X bk 0) D) (X t 0)=M (am F (y m) E)/\bA (cP k (X bk 0) D) (X n 0)=M (bX pb i (y g+4:R) pc)/\bA (cP k (X bk 0) D) (X C 0)=M (ay b)/\bA (cP k (X bk 0) D) (X o 0)=M (ay c))/\iH k (X bk 0)=bD/\(∀B,cN D=M B->cN (am N (y L) K)=M B\/G (H a)<=B)from by
  intro V D k ad an;have q:I (λB=>cN (am N (y L) K)=M B) l k:=(((I.bI _ l).aE V).aj (cf _ _)<|λB A=>J A).aj (I.fU an)<|λB A=>J A;have S:=f.k.aA q (f.mP U).2.2;have j:=f.r9 (ks1:=L++[⟨y m,y g+4,MY,P,Q⟩]) q (by rw[Ip,ai];exact ad);have bf:∀B,cN (am N (y L) K)=M B->W<=B:=λB A=>(aS f.ok B A).1;have al:I (wQ s o (am F (y m) E) w<|am N (y L) K) a (cP k (X bk 0) D):=(v.aj q<|λB A=>J<|bj<|bj<|bj A).aL bk 0 _<|J<|J ⟨U,U⟩;exact⟨j,al,⟨q.da bf U k0,q.da bf U k1,(f.l.aA q aI).u,(f.d.aA q aI).u,(f.p.aA q aI).u,(f.f.aA q aI).u,(f.t.aA q aI).u⟩,S.u,⟨al.da u hg bh,al.da u hg bi,j.l.u,j.d.u,j.p.u,j.f.u,j.t.u⟩,S.bS,λB A=>by
   obtain cT|⟨g9,cT,hy⟩:=an.f
   .grind
   .rw[cT]at A;cases A;have h1:=v.D;have h2:G (H l)<G (H (dw l V).drew):=sM;grind⟩)
 have bm:=ak f.ok
 have dc:W<=G (H l):=f.D
 have b1:aa<G (H l):=U
 have b2:s<G (H l):=U
 have b3:t<G (H l):=U
 have b4:n<G (H l):=U
 have b5:bk<G (H l):=U
 have b6:C<G (H l):=U
 have b7:o<G (H l):=U
 clear f v
 have hS:(bA l.drew (X aa<|e+b*4)=M (aw P)/\bA l.drew (X aa<|e+t1*4)=M (aw Q)/\bA l.drew (X s 0)=M (bX aa e bg p)/\bA l.drew (X t 0)=M (am F (y m) E)/\bA l.drew (X n 0)=M (bX pb i (y g+4:R) pc)/\bA l.drew (X bk 0)=M (am N (y L) K)/\bA l.drew (X C 0)=M (ay b)/\bA l.drew (X o 0)=M (ay c)):=⟨by rw[cL];exact k0,by rw[cL];exact k1,by rw[cL];exact l1,by rw[cL];exact l2,by rw[cL];exact l3,by rw[cL];exact l4,by rw[cL];exact l5,by rw[cL];exact l6⟩
 rename_i QQ KK bq
 refine cX (λV=>(bA V (X aa<|e+b*4)=M (aw P)/\bA V (X aa<|e+t1*4)=M (aw Q)/\bA V (X s 0)=M (bX aa e bg p)/\bA V (X t 0)=M (am F (y m) E)/\bA V (X n 0)=M (bX pb i (y g+4:R) pc)/\bA V (X bk 0)=M (am N (y L) K)/\bA V (X C 0)=M (ay b)/\bA V (X o 0)=M (ay c))) 22 aH ?_
 refine dH 0 ?_
 iterate 20 (refine fW hS ?_;simp only[ig,eh,jZ])
 apply eS
 refine aW 20 ?_
 intro dd aV
 go_simp
 refine aV _ _ (λ_=>?_) ?_
 .exact⟨by rw[cL,gP b1];exact k0,by rw[cL,gP b1];exact k1,by rw[cL,gP b2];exact l1,by rw[cL,gP b3];exact l2,by rw[cL,gP b4];exact l3,by rw[cL,gP b5];exact l4,by rw[cL,gP b6];exact l5,by rw[cL,gP b7];exact l6⟩
 refine aW 21 ?_
 intro dk ba
 simp only[dl,cF,cO]
 refine lN (.tmp 8) (.tmp 28) 319 z W 383 i0 (ef #[ay 0,ay 0,ay 0,aw ⟨#[]⟩,aw ⟨#[]⟩]) 5 56 underlying319 cj cu cv cx z cg (am N (y L) K) (y L) (fK L) z (kr (bC bm<|aK #[ay<|y m,ay<|(y g:Y)+4,ay MY,aw P,aw Q] 383) z) (X (G<|H l) 0) 1 1 [ay<|y m,ay<|(y g:Y)+4,ay MY,aw P,aw Q] z z (Tk _ _ _ _ _ _ _) (by simp[Value.oneCell']) U U dW ?_
 intro D k ad an
 obtain⟨j,al,⟨s0,s1,s2,s3,s4,s6,s7⟩,s5,⟨z0,z1,z2,z3,z4,z6,z7⟩,bs,bc⟩:=bp _ D k ad an
 obtain⟨bx,bv,cl⟩:=aM ad
 subst cl
 refine ba _ _ aI ?_
 simp only[ig,eh]
 refine aW 22 ?_
 intro dn bb
 go_simp
 refine bb _ _ wW ?_
 refine dG aH ?_ _
 show KK _ _
 apply bq
 clear bq aV ba bb z0 z1 z2 z3 z4 z6 z7 s0 s1 s2 s3 s4 s5 s6 s7 bs ad an hS k0 k1 l1 l2 l3 l4 l5 l6 b1 b2 b3 b4 b5 b6 b7 bp bm
 have aD:=ak bc
 clear bc
 generalize cP k (X bk 0) (am bx (y L+1) bv)=W3 at*
 generalize(am bx (y L+1) bv)=cM at*
 have l2:=j.d.u
 have l3:=j.p.u
 have cB:=j.D
 have bL:=ak j.od
 have bE:=ak j.op.bB
 have dT:y (g++le 4 (pt g))=y g+4:=by simp[dh]
 have cc:=ak (show∀v4 w4,fD w4 W 5 1 v4 (y m+(y g+4)) (m.map (Value.int .u8)++(g++le 4 (pt g)).map (Value.int .u8))->fm W3 w4 (am F (y m) E) v4->(bA w4 (X t 0)=M (am F (y m) E)/\iH w4 (X t 0)=bD)/\nr (cP w4 (X t 0) v4) W s t n bk C o (bX aa e bg p) v4 (bX pb i (y g+4) pc) cM b c (m++ij g) (g++le 4 (pt g)) (L++[⟨y m,y g+4,MY,P,Q⟩])/\I (wQ s o (am F (y m) E) w<|am N (y L) K) a (cP w4 (X t 0) v4)/\(∀B,cN v4=M B->cN (am F (y m) E)=M B\/G (H a)<=B)from by
  intro v4 w4 ap ax;have q:=I.fU ax;have S:=j.d.aA q (j.mP U).1;have bf:=j.A (ds1:=m++ij g) q ax.f<|fy.of ap (by rw[ai,iA]) (by unfold ij;rw[bz,bz,bz]);exact⟨⟨S.u,S.bS⟩,bf,(al.aj q<|λB A=>J<|bj<|J A).aL t 0 _<|J<|J ⟨U,U⟩,λB A=>by
   grind[fm.f,Nat.le_trans,I.D]⟩)
 go_wp2_with(first
  |(at_builtin;go_loud(refine cq _ z (.tmp 30) (.tmp 31) 31 z W 5 j0 (.int .u8 0) 1 1 underlying31 ck cp cr cs z cg _ (y m) (m.map (Value.int .u8)) z bL (X pb i) (y g+4) pc ((g++le 4 (pt g)).map (Value.int .u8)) z aI (vO bE) (by intro ec hu;simp only[cC]at hu;obtain⟨g9,_,rfl⟩:=hu;rfl) U U cB ?_;intro v4 w4 ap ax;let⟨⟨y0,y1⟩,x,av,br⟩:=cc v4 w4 ap ax;obtain⟨x4,c4,rfl⟩:=aM ap;have aU:=ak br;have ca:=ak x;have bT:=ak av)))
 have x:=ag ca
 have av:=ag bT
 have y2:=x.p.u
 have y3:=x.p.bS
 have y4:=x.f.u
 have y5:=x.f.bS
 have y6:=x.t.u
 have n1:C≠n:=U
 have n2:o≠n:=U
 have n3:o≠C:=U
 have bl:=ak (show∀q,(q=(cP (cP (cP w4 (X t 0)<|am x4 (y m+(y g+4)) c4) (X n 0) aF) (X C 0)<|ay c).drew\/q=(cP (cP (cP w4 (X t 0)<|am x4 (y m+(y g+4)) c4) (X C 0)<|ay c) (X n 0) aF).drew)->(∃ab ao,nr q W s t n bk C o (bX aa e bg p) ab aF ao c c (m++ij g) [] (L++[⟨y m,y g+4,MY,P,Q⟩])/\(∀B,cN ab=M B->cN (am F (y m) E)=M B\/G (H a)<=B)/\(∀B,cN ao=M B->cN (am N (y L) K)=M B\/G (H a)<=B))/\I (wQ s o (am F (y m) E) w<|am N (y L) K) a q from by
  rintro q(rfl|rfl)
  .exact⟨⟨_,_,x.Hx.aA<|cf _ _,aU,aD⟩,((av.aL n 0 _<|J<|J ⟨U,U⟩).aL C 0 _<|J<|J ⟨U,U⟩).aj (cf _ _)<|λB A=>J A⟩
  .exact⟨⟨_,_,x.zei.aA (cf _ _),aU,aD⟩,((av.aL C 0 _ (J (J ⟨U,U⟩))).aL n 0 _ (J (J ⟨U,U⟩))).aj (cf _ _) (λB A=>J A)⟩)
 go_region
 all_goals
  go_end0;refine⟨z,bl _ ?_⟩;grind
def Hw(c:dB):af:=(c[0]?.map E.D).getD ⟨#[]⟩
def Pc(c:dB):af:=(c[y c-1]?.map E.D).getD ⟨#[]⟩
def Qh(p:R)(c:dB):pS:=⟨p,y (iG c)+4,y c,Hw c,Pc c⟩
def dK:R->iF->la
 |_,[]=>[]
 |p,c::a=>Qh p c::dK (p+(y (iG c)+4)) a
def lC:∀(a:iF)(p:R),y (dK p a)=y a
 |[],_=>rfl
 |c::a,p=>by rw[dK,bK,lC a,bK]
def EU(c:dB):∀(a:iF)(p:R),dK p (a++[c])=dK p a++[Qh (p+y (gD a)) c]
 |[],p=>by simp[dK,gD]
 |d::a,p=>by
  rw[dt,dK,EU c a,dK,dt,qS,ai,iA];grind
def BZ:∀(a:iF)(p i:R)(f:i<y (dK p a))(b:i<y a),(dK p a)[i]=Qh (p+y (gD<|a.take i)) a[i]
 |[],_,i,_,b=>aI
 |c::a,p,0,_,_=>by simp[dK,gD]
 |c::a,p,i+1,f,b=>by
  have e:i<y (dK (p+(y (iG c)+4)) a):=by simpa[dK]using f
  have d:i<y a:=dV b;have h:=BZ a (p+(y (iG c)+4)) i e d;simp only[dK,cF,uh,qS,ai,iA];rw[h];grind
def JT(h:0<y i):Hw i=(i[0]'h).D:=by
 unfold Hw;rw[bF h];rfl
def Pb(h:0<y i):Pc i=(i[y i-1]'U).D:=by
 unfold Pc;rw[bF U];rfl
def s8(h:0<y i)(p:R):(Qh p i).Of i:=⟨h,rfl,rfl,JT h,Pb h⟩
def Mj:∀(c:dB),y c<=y (iG c)
 |[]=>by simp[iG]
 |x::c=>by
  have:=Mj c;unfold iG at*;rw[dR,ai,bK];have:8<=y (yI x):=by unfold yI;rw[ai,dh];omega
  omega
structure sq(l:dB)(cs:iF):Prop where
 p:cs.flatten=l
 f:∀c∈cs,0<y c/\y (iG c)+4<=512
 L:cs.Pairwise lI
def sq.ua(h:sq i O)(d:i≠[])(j:∀x∈i,x.Good)(k:gF i):Tp (dK 0 O) O where
 dL:=lC O 0
 ne:=by
  cases O with
  |nil=>exact absurd h.p.symm<|dV d
  |cons e O=>simp
 l:=λg c a=>by
  rw[BZ O 0 g c a];exact s8 (h.f _<|aB a).1 _
 p:=λg c=>by
  have a:g<y O:=by rwa[lC]at c
  rw[BZ O 0 g c a];simp[Qh]
 S:=λe a x c=>j x (by rw[<-h.p];grind[mem_flatten])
 o:=h.p▸k
 L:=h.L
 f:=λe a=>by
  have:=(h.f e a).2;have:=Mj e;omega
def sq.xM(h:sq i O):y O<=y i:=by
 rw[<-h.p];have:=h.f;clear h;induction O with
 |nil=>simp
 |cons c O b=>
  have a:=(this c ar).1;have e:=b (λd a=>this d<|by simp[a]);grind
def sq.A(h:sq i O):y (gD O)<=512*y O:=by
 have:=h.f;clear h;induction O with
 |nil=>simp[gD]
 |cons c O b=>
  have a:=(this c ar).2;have e:=b (λd a=>this d<|by simp[a]);rw[qS,ai,iA,bK];omega
def uA(k:pS):eD:=le 4 k.D++(le 4 k.A++(iM k.eJ++iM k.eP))
def iD(a:la):eD:=le 4 (y a)++a.flatMap uA
structure Ku(w0 w:Z)(x:R)(k:pS)(o:ae)(bs:eD):Prop where
 aZ:fy w (G<|H w0) o bs
 g:Cf w x k
 ne:cN o≠M x
 aA:I aC w0 w
def Ku.lA{l:pS}{c:eD}(h:Ku a e b l d m)(g:fm e P d w)(i:fy P (G<|H a) w c):Ku a P b l w c:=by
 have:=az h.g;refine⟨i,h.g.aA (I.eF (S:=λj=>cN d=M j) g.dF<|λ_ f=>J f) h.ne,λf=>?_,h.aA.aj (I.eF (S:=λj=>cN d=M j) g.dF<|λ_ f=>J f)<|λj f=>bj (h.aZ.lt j f).1⟩;obtain k|⟨n,k,o⟩:=g.f;exact h.ne<|k.symm.trans f;grind
def Ku.D{a w:Z}{k:pS}{bs:eD}(h:Ku a w c k d bs):G (H a)<=G (H w):=h.aA.D
structure pS.Fits(k:pS):Prop where
 D:k.D<=1000000
 A:k.A<=1000000
 eJ:k.eJ.size<=255
 eP:k.eP.size<=255
def Pq{k:pS}(h:k.Fits):y (uA k)<=520:=by
 have:=h.eJ;have:=h.eP;simp[uA,iM,dh,iw];omega
def BU{ks:la}(h:∀k∈ks,k.Fits):y (ks.flatMap uA)<=520*y ks:=by
 induction ks with
 |nil=>simp
 |cons k ks b=>
  have:=Pq<|h k ar;have:=b (λj a=>h j<|by simp[a]);rw[dR,ai,bK];omega
def vq{n:Y}(a:0<=n)(b:n<4294967296):IntKind.u32.wrap n=n:=by rw[IntKind.wrap_u32];omega
def Ln(a:la)(q e g:R)(w:Z)(hb:q<G (H w))(hc:∀u ac,(fK a)[u]?=M ac->bA w (X q<|e+u)=M ac)(hl:y a<=1000000)(o:∀O∈a,O.Fits):cR bN 257 #[bX q e (y a) g] w λt w'=>∃v',t=aN v'/\fy w' (G<|H w) v' (iD a)/\I aC w w':=by
 have p:=kT (n6:=G<|H w) (v:=aF) (bs:=[]) (y a:R) (w:=w) (fy.kj _ _) (aq _) ar U U;have e0:=vq (n:=(y a:R)) U U;have P:=ak o;go_in
 go_wp2_with(go_at_call 227;refine p.mono ?_;rintro t w1⟨v1,rfl,k,l⟩;have v:=ak k;have x:=ak l)
 go_loopw [3,12] (λo i wr=>∃n:R,n<=y a/\i=ay n/\fy wr (G<|H w) o (le 4 (y a)++(a.take n).flatMap uA)/\I aC w wr) (λ_ i _=>y a-(intOf i).toNat)
 exact⟨0,bQ _,z,dV<|ag v,I.eF (S:=aC) x.dF (by intro O o;simp[cN]at o)⟩;obtain⟨n,hn,rfl,d,j⟩:=hrel;have ab:=j.D;by_cases i:n<y a;(.have m:∀u aa,u<5->(pS.bU a[n])[u]?=M aa->bA wr (X q<|e+n*5+u)=M aa:=λu aa b c=>j.u (by rw[bJ];exact hc _ _<|(jt a n u i b).trans c) (λd=>d) hb;have s:=P a[n]<|aB i;(have W:y (le 4 (y a)++(a.take n).flatMap uA)<=600000000:=by have h1:=BU (ks:=a.take n)<|λO o=>P O<|ix o;grind[length_append,dh]);have HS:=ak (show(le 4 (y a)++(a.take n).flatMap uA)++uA a[n]=le 4 (y a)++(a.take<|n+1).flatMap uA from by rw[cw,aG i,gR];simp);generalize a[n]=O at*;generalize le 4 (y a)++(a.take n).flatMap uA=r at*;let⟨pos,c,b,first,f⟩:=O;have p0:=m 0 _ U z;have p1:=m 1 _ U z;have p2:=m 2 _ U z;have p3:=m 3 _ U z;have p4:=m 4 _ U z;simp only[ma]at p0 p1 p2 p3 p4;have f1:=s.D;have f2:=s.A;have Q:=s.eJ;have T:=s.eP;simp only at f1 f2 Q T;have e1:=vq (n:=(c:R)) U U;have e2:=vq (n:=(b:R)) U U;have V:Ku w (dw wr<|aK #[ay pos,ay c,ay b,aw first,aw f] 383) (G<|H wr) ⟨pos,c,b,first,f⟩ u3 r:=⟨d.aE _,aQ _ z,λt=>bP<|(d.lt _ t).2,j.aE _⟩;go_wp21;refine(kT (c:R) V.aZ dW U U U).mono ?_;rintro t w1⟨v1,rfl,k,l⟩;have hA1:=V.lA l k;let⟨k0,k1,k2,k3,k4⟩:=hA1.g.bU;simp only at k0 k1 k2 k3 k4;have D:=hA1.D;go_wp21;refine(kT (b:R) hA1.aZ D (by rw[ai,dh];omega) U U).mono ?_;rintro t w2⟨v2,rfl,A,K⟩;have hA2:=hA1.lA K A;let⟨m0,m1,m2,m3,m4⟩:=hA2.g.bU;simp only at m0 m1 m2 m3 m4;have E:=hA2.D;go_wp21;refine(rf (G<|H w) v2 ((r++le 4 c)++le 4 b) first _ hA2.aZ E (by rw[ai,ai,dh,dh];omega) Q).mono ?_;rintro t w3⟨v3,rfl,B,L⟩;have hA3:=hA2.lA L B;let⟨q0,q1,q2,q3,q4⟩:=hA3.g.bU;simp only at q0 q1 q2 q3 q4;have F:=hA3.D;go_wp21;go_call rf (G<|H w) v3 (((r++le 4 c)++le 4 b)++(first.size:Y)::km first) f _ hA3.aZ F (by grind[length_append,dh,length_cons,iw]) T as t w4⟨v4,rfl,C,N⟩;have hA4:=hA3.lA N C;go_wp2;go_roundw;refine⟨n+1,i,dM,?_,hA4.aA⟩;rw[<-ag HS];have:=hA4.aZ;simpa[uA,iM]using this;simp[intOf];omega);have b:n=y a:=U;subst b;rw[cQ]at d;go_wp2;go_ret;exact⟨_,z,d,j⟩
section
open Shelf
attribute [local go_sem] Oper.semAt_some
def Tb(a:iF)(c:dB):gD (a++[c])=gD a++ij (iG c):=by simp[gD]
def Uj{l:dB}{c a:dB}(h:l.take b=c++a)(g:b<=y l){i:R}(f:i<y a):∃e:y c+i<y l,l[y c+i]=a[i]:=by
 have:b=y c+y a:=by have:=cD y h;grind
 refine⟨U,?_⟩;have d:(l.take b)[y c+i]'dW=(c++a)[y c+i]'dW:=by simp only[h]
 rw[oX,mM U]at d;simpa using d
def Ug{L o r t bk s p:R}(E f n:R){A:ae}(q:dB)(e:iF)(c:dB)(h:nr a L o r t bk s p (bX E f (y q) n) d w A (y e.flatten) b (gD e) (iG c) (dK 0 e))(T:Steps a)(W:E<o)(V:∀ab ac,(bu q)[ab]?=M ac->bA a (X E<|f+ab)=M ac)(hcut:q.take b=e.flatten++c)(K:b<=y q)(k:0<y c)(hl:y q<=1000000)(g:∀C∈e,0<y C/\y (iG C)+4<=512)(D:y (iG c)+4<=512):cR bN 252 #[aJ t,aJ bk,aJ r,aJ p,aJ s,aJ o] a λaa B=>
 aa=aN (de #[])/\(∃l m,nr B L o r t bk s p (bX E f (y q) n) l aF m (y (e++[c]).flatten) b (gD<|e++[c]) (iG []) (dK 0<|e++[c])/\(∀x,cN l=M x->cN d=M x\/G (H a)<=x)/\(∀x,cN m=M x->cN A=M x\/G (H a)<=x))/\I (wQ o p d w A) a B:=by
 have j:b=y e.flatten+y c:=by
  have:=cD y hcut;grind
 have u:y e<=y e.flatten:=by
  have:=g;clear h hcut j g;induction e with
  |nil=>simp
  |cons C e x=>
   have u:=(this C ar).1;have F:=x (λP v=>this P<|by simp[v]);grind
 have F:y (gD e)<=512*y e:=by
  have:=g;clear h hcut j g u;induction e with
  |nil=>simp[gD]
  |cons C e x=>
   have u:=(this C ar).2;have F:=x (λP v=>this P<|by simp[v]);rw[qS,ai,iA,bK];omega
 let⟨i1,Q⟩:=Uj hcut K k
 let⟨i2,S⟩:=Uj hcut K (i:=y c-1) U
 have O:=(fH q _ i1).1
 have c1:=(fH q _ i2).1
 rw[Q]at O
 rw[S]at c1
 have:=lC e 0
 refine(M6 E f n (y q) (y e.flatten+(y c-1)) (Hw c) (Pc c) h T W ?_ ?_ U U U U U U U U).mono ?_
 .rw[JT k];grind
 .rw[Pb k];exact V _ _ c1
 .rintro aa B⟨rfl,⟨l,m,hv,hx⟩,ht⟩;refine⟨z,⟨l,m,?_,hx⟩,ht⟩;have N:dK 0 (e++[c])=dK 0 e++[⟨y<|gD e,y (iG c)+4,b-y e.flatten,Hw c,Pc c⟩]:=by
   rw[EU,j,xe,ez];rfl
  rwa[(by rw[j];simp:y (e++[c]).flatten=b),N,Tb]
def fy.pO{c base':R}(h:fy a c d m)(e:base'<=c):fy a base' d m:=fh h e
def fy.U9(h:fy a b d m)(e:0<y m):∃g c i,d=bX g c (y m) i:=by
 obtain⟨_,f⟩|⟨g,c,i,f,j⟩:=h.bB.fR;rw[f]at e;simp at e;grind
structure Jb(w:Z)(lv:ae)(p:dB)(B:fB)(W:Z):Prop where
 ex:∃cs cur dv pv kv,nr W (G (H w)+8) (G<|H w) (G (H w)+1) (G (H w)+2) (G (H w)+3) (G (H w)+4) (G (H w)+5) lv dv pv kv (y cs.flatten) (y p) (gD cs) (iG cur) (dK 0 cs)/\p=cs.flatten++cur/\(∀c∈cs,0<y c/\y (iG c)+4<=512)/\y (iG cur)+4<=512/\(cur=[]->p=[])/\(cs++[cur]).Pairwise lI/\∀k,B k↔wQ (G<|H w) (G (H w)+5) dv pv kv k
 fn:fE W (G (H w)+6) (.func (.func 252) #[] #[aJ<|G (H w)+2,aJ<|G (H w)+3,aJ<|G (H w)+1,aJ<|G (H w)+5,aJ<|G (H w)+4,aJ<|G<|H w]) 1
 aA:I aC w W
def Jb.lt{w g:Z}(h:Jb w d i W g):∀k,W k->G (H w)<=k/\k<G (H g):=by
 let⟨j,c,m,o,n,e,_,_,_,_,_,a⟩:=h.ex;exactλk c=>⟨e.da k<|(a k).1 c,e.xQ k<|(a k).1 c⟩
def Jb.gQ{B T:fB}(h:Jb a d i B e)(c:I T e P)(t:∀q,T q->¬B q/\G (H a)+7<=q):Jb a d i B P:=by
 let⟨f,b,g,s,r,p,j,k,l,m,n,o⟩:=h.ex;exact⟨⟨f,b,g,s,r,p.XB c aI,j,k,l,m,n,o⟩,h.fn.aA c aI,h.aA.aj c aI⟩
def TT{w W2 j w6:Z}{D h g i v6:ae}{p gg cur:dB}{cs:iF}{B:fB}(e:nr j (G (H w)+8) (G<|H w) (G (H w)+1) (G (H w)+2) (G (H w)+3) (G (H w)+4) (G (H w)+5) D h g i (y cs.flatten) (y p) (gD cs) (iG cur) (dK 0 cs))(F:fE j (G (H w)+6) (.func (.func 252) #[] #[aJ<|G (H w)+2,aJ<|G (H w)+3,aJ<|G (H w)+1,aJ<|G (H w)+5,aJ<|G (H w)+4,aJ<|G<|H w]) 1)(u:I aC w j)(C:I B W2 j)(a:∀k,wQ (G<|H w) (G (H w)+5) h g i k->B k\/G (H W2)<=k)(hcut:p=cs.flatten++cur)(m:∀c∈cs,0<y c/\y (iG c)+4<=512)(s:y (iG cur)+y (iG gg)+4<=512)(n:0<y gg)(t:(cs++[cur]).Pairwise lI)(q:lI p gg)(K:fD w6 (G (H w)+8) 5 1 v6 (y (iG cur)+y (iG gg)) ((iG cur).map (Value.int .u8)++(iG gg).map (Value.int .u8)))(v:fm j w6 g v6):(bA w6 (X (G (H w)+2) 0)=M g/\iH w6 (X (G (H w)+2) 0)=bD)/\(bA (cP w6 (X (G (H w)+2) 0) v6) (X (G (H w)+5) 0)=M (ay<|y p)/\iH (cP w6 (X (G (H w)+2) 0) v6) (X (G (H w)+5) 0)=bD)/\∃A,Jb w D (p++gg) A (cP (cP w6 (X (G (H w)+2) 0) v6) (X (G (H w)+5) 0)<|ay ((y p+y gg:R):Y))/\I B W2 (cP (cP w6 (X (G (H w)+2) 0) v6) (X (G (H w)+5) 0)<|ay ((y p+y gg:R):Y))/\∀k,A k->B k\/G (H W2)<=k:=by
 have d:=I.fU v;have l:=e.p.aA d (e.mP U).2.1;have f:=e.TS (ps1:=iG<|cur++gg) d v.f (fy.of K (by rw[Ad,ai])<|by rw[Ad,bz]);have b:I (wQ (G<|H w) (G (H w)+5) h g i) j (cP (cP w6 (X (G (H w)+2) 0) v6) (X (G (H w)+5) 0)<|ay ((y p+y gg:R):Y)):=((d.aT (T:=wQ (G<|H w) (G (H w)+5) h g i)<|λk o=>J<|bj<|bj<|J o).aL _ 0 _<|J<|J ⟨U,U⟩).aL _ 0 _<|J<|J ⟨U,U⟩;refine⟨⟨l.u,l.bS⟩,⟨f.t.u,f.t.bS⟩,wQ (G<|H w) (G (H w)+5) h v6 i,⟨⟨cs,cur++gg,h,v6,i,ai▸(f.at (y p+y gg)),by rw[hcut,cw],m,by rw[Ad,ai];exact s,λc=>?_,?_,λk=>th⟩,?_,?_⟩,C.aj b a,?_⟩;rw[gB]at c;rw[c.2]at n;simp at n;let⟨N,_,O⟩:=eH.1 t;refine eH.2 ⟨N,ar,λc E Q L=>?_⟩;rw[bY.1 L];intro P x m9 r;obtain r|r:=aP.1 r;exact O c E cur ar P x m9 r;exact q P (by rw[hcut];grind[mem_append_left,mem_flatten]) m9 r
 .exact F.aA b (by
   rintro(⟨_,c⟩|c|c|c)
   .omega
   .have:=(e.od.lt _ c).1;omega
   .have:=(λk o=>(e.op.lt k o).1:∀k,cN g=M k->G (H w)+8<=k) _ c;omega
   .have:=(aS e.ok _ c).1;omega)
 exact u.aj b<|λk o=>bj<|e.da k o;rintro k(c|c|c|c);exact a k<|J c;exact a k<|bj<|J c;obtain r|⟨P,r,x⟩:=v.f;exact a k<|bj<|bj<|J<|r▸c;rw[r]at c;cases c;exact bj<|aR C.D x;exact a k<|bj<|bj<|bj c
def GH(W b f:R)(hT:Steps a)(hg:W<G (H a))(hc:∀cv ch,(bu i)[cv]?=M ch->bA a (X W<|b+cv)=M ch)(dd:y i<=f)(dr:0<y i)(L:∀bd∈i,bd.Good)(hs:gF i)(c:∀W∈jh i,y W<=10)(hl:y i<=1000000):cR bN 193 #[bX W b (y i) f] a λaa w'=>∃dv kv q,aa=aN (de #[dv,kv])/\sq i q/\fy w' (G<|H a) dv (gD q)/\fD w' (G<|H a) 383 5 kv (y q) (fK<|dK 0 q)/\I aC a w':=by
 let⟨i0,bq,bT,ca,cb⟩:=cZ pL;have bE:=hT.lt;have cp:=CP (bX W b (y i) f) _ _ _ z;have hE:lF a (bX W b (y i) f) i:=⟨by rw[ic],aI⟩;let⟨HT,HC,HG,ck⟩:=jr hT hc L c;clear hT hc L c;refine(ew (n:=3)).1 ?_;refine callsIn_of_wp_marks func193 z trivial ?_ z;simp only[ntmps193,gm,bK,eE,jZ,Nat.reduceSub,fc,fa,gp,fG,ep,dt];have cs:=wH (P:=bN) (w:=(dw (dw (dw (dw (dw (dw (dw a<|aK #[bX W b (y i) f] 103)<|aK #[aF] 31)<|aK #[aF] 31)<|aK #[aF] 319)<|aK #[ay 0] 3)<|aK #[ay 0] 3)<|aK #[.nilFunc] 1)) (b:=G (H a)+1+1+1+1+1+1) (u:=.nilFunc) (t:=1) (aQ _ ar) (.func (.func 252) #[] #[aJ<|G (H a)+1+1,aJ<|G (H a)+1+1+1,aJ<|G (H a)+1,aJ<|G (H a)+1+1+1+1+1,aJ<|G (H a)+1+1+1+1,aJ<|G<|H a]) z;gi_wp2_with(refine⟨trivial,?_⟩;gi_at_call 142;refine(ew.2<|cp _).mono ?_;rintro aa w1⟨rfl,rfl⟩)
 clear cs;let⟨W0,l⟩:∃W0,(dw (dw (dw (dw (dw (dw (dw (dw a<|aK #[bX W b (y i) f] 103)<|aK #[aF] 31)<|aK #[aF] 31)<|aK #[aF] 319)<|aK #[ay 0] 3)<|aK #[ay 0] 3)<|aK #[.func (.func 252) #[] #[aJ<|G (H a)+1+1,aJ<|G (H a)+1+1+1,aJ<|G (H a)+1,aJ<|G (H a)+1+1+1+1+1,aJ<|G (H a)+1+1+1+1,aJ<|G<|H a]] 1)<|aK #[bX W b (y i) f] 103)=W0:=⟨_,rfl⟩;have ds:G (H W0)=G (H a)+8:=by rw[<-l];simp
 have bL:I aC a W0:=l▸(((((((cI aC a).aE _).aE _).aE _).aE _).aE _).aE _).aE _;have cn:fE W0 (G (H a)+7) (bX W b (y i) f) 103:=l▸aQ _ ar;have hA0:Jb a (bX W b (y i) f) (ji []) (wQ (G<|H a) (G (H a)+5) aF aF aF) W0:=by refine⟨⟨[],[],aF,aF,aF,⟨?_,?_,?_,?_,?_,?_,fy.kj _ _,fy.kj _ _,ct _ _ _ _,(by simp[cN]),U,U⟩,rfl,ar,by simp[iG],λ_=>rfl,ar,λn=>th⟩,?_,bL⟩;rw[<-l];grind[fE.aE,aQ];rw[<-l];exact fE.aE (fE.aE (fE.aE (fE.aE (fE.aE (fE.aE (aQ _ ar) _) _) _) _) _) _;rw[<-l];exact fE.aE (fE.aE (fE.aE (fE.aE (fE.aE (aQ _ ar) _) _) _) _) _;rw[<-l];exact fE.aE (fE.aE (fE.aE (fE.aE (aQ _ ar) _) _) _) _;rw[<-l];exact fE.aE (fE.aE (fE.aE (aQ _ ar) _) _) _;rw[<-l];exact fE.aE (fE.aE (aQ _ ar) _) _;rw[<-l];exact fE.aE (aQ _ ar) _
 rw[l];refine tJ (m:=3) (arg:=IZ<|bX W b (y i) f) (V:=CX) (n0:=G<|H a) (gf:=209) (lb:=#[aJ<|G (H a)+7]) (l:=pK 0<|jh i) (S:=λn=>n=G (H a)+7) ?geval (enters_of func209 aH z) (λ_=>rfl) (yC (G<|H a) 2 cn (hE.aA bL<|λn c=>⟨id,(show W=n by simpa[cN]using c)▸hg⟩) (λn c=>(show W=n by simpa[cN]using c)▸hg) U U) trivial U (λn c=>U) (λg bf cd=>Jb a (bX W b (y i) f) (ji g) bf cd) (λ_ _ _ _=>False) _ hA0 (λn c o=>by obtain⟨_,o⟩|o|o|o:=o<;>first|omega|(simp[cN]at o)) (λg bf cd w=>w.lt) ?st ar ?body ?done ?stop;rfl;intro g bf cd u T w j hT;refine w.gQ j<|λn c=>⟨(hT n c).1,?_⟩;obtain o|o|o:=(hT n c).2;omega;exact o.elim;omega;(case stop=>grind)
 .rintro lr g⟨cc,j⟩bf cd dn bh bs N w _;let⟨hn,ea,c⟩:=LP hs.zx N;have bo:0<y j:=iZ.2 c.ne;have dk:cc+y j+y ea=y i:=by rw[c.dq,hn];simp;omega
  have K:=CY hE c.dq c.ne;rw[<-hn]at K;unfold IZ;unfold By at K|-;simp only at K|-;have cM:y j<=10:=ck j (by let⟨_,eb,aa⟩:=AP _ _ _ _ _ N;rw[<-aa];simp);have bn:∀bd∈j,bd.Good:=λbd a=>HG bd (by rw[c.dq];simp[a]);generalize f-cc=dT at*;let⟨HA,HK,HN⟩:=eU w c hn;clear w N c hn;gi_wp2;refine⟨I.bI _ _,λW2 bb=>?_⟩;have hA2:=HA.gQ bb<|λn c=>aI;have ba:lF W2 (bX W (b+cc*4) (y j) dT) j:=K.aA hA2.aA<|λn c=>(show W=n by simpa[cN]using c)▸⟨id,hg⟩;have bv:=GG ba (λn c=>(show W=n by simpa[cN]using c)▸au hg hA2.aA.D) bn U;let⟨q,d,dv,pv,kv,hv,hcut,s,v,E,t,hB⟩:=hA2.ex;have co:0<y (iG j)/\y (iG j)<=350:=by
   have h1:=Uh bn;have O:=Mj j;omega
  let⟨px,pc,bx⟩:=aM hv.op;let⟨ce,hb⟩:∃ce,y (iG j)=ce:=⟨_,rfl⟩;let⟨cj,ha⟩:∃cj,y (iG d)=cj:=⟨_,rfl⟩;rw[hb]at co;rw[ha]at bx v;let⟨HV,HF,aU,ab,HB,an⟩:=nT hv hA2.fn hA2.aA bb hB hcut;obtain⟨ao,cx,bg,Hb,Ha,cT⟩:=nT s E t hb ha ba;clear hA2 ba K hv hcut s E t hB hb ha bb;subst bx;gi_wp2_with fail
  refine⟨trivial,(CallsIn.inRound lr<|ew.2 bv).mono ?_⟩;rintro aa B⟨b2,rfl,ad,e⟩;obtain⟨cl,D,cm,bk⟩:=ad.U9 (by rw[ag Hb];omega);rw[ag Hb]at bk;subst bk;have k:=HV.aA e;have bm:=HF.aA e id;have y5:=k.p.u;have y9:=bm.u;clear bm bv;have av:lr<G (H W2):=au bs.1 ab.D;have dc:G (H cd)<=G (H W2):=ab.D;have bt:y (ji g)=cc:=HN.symm;by_cases cB:(512:Y)<(cj:Y)+ce+4
  .have ac:0<y d:=by
    obtain o|o:=fN<|y d
    .obtain rfl:=bG o;have:=ag Ha;simp[iG]at this;omega
    .exact o
   have ap:=HK.dq;have Q:I aC a B:=aU.t e;have r:=Ug W b f i q d k (HT.dD (Q.dD (aq _) cY) bE) hg (λcv ch hj=>Q.u (HC cv ch hj) id hg) (by rwa[ap,cw,rL]) U ac hl ao<|ag Ha▸v;clear Q ap;gi_wp2_with fail
   refine⟨trivial,(CallsIn.inRound lr<|ew.2<|Gq ((cj:Y)+ce) _ U U).mono ?_⟩;rintro aa w4⟨rfl,cu⟩;subst w4;gi_wp2_with fail
   refine⟨trivial,(CallsIn.inRound lr<|ew.2 r).mono ?_⟩;rintro aa w5⟨rfl,⟨db,dx,al,bl,br⟩,O⟩;have x:∀n,wQ (G<|H a) (G (H a)+5) dv (am px cj pc) kv n->bf n:=λn c=>(HB n).2 c;have bp:=HV.xQ;have cr:=HV.da;have bi:fy w5 (G<|H W2) (bX cl D ce cm) (iG j):=O.aZ ad<|λn c o=>gV (bp n o)<|(ad.lt n c).1;have bc:=al.D;have:=al.p.u;have:=e.D;have t:=ag bg;have aD:=ak<|vO bi.bB;have aV:=ak (λ(v6:ae)(w6:Z)ho hw=>TT (w:=a) (w6:=w6) (v6:=v6) (p:=ji g) (cs:=q++[d]) (cur:=[]) (gg:=j) (B:=bf) (W2:=W2) al ((HF.aA e id).aA O (by
    rintro(⟨_,o⟩|o|o|o)
    .omega
    .have:=(HV.od.lt _ o).1;omega
    .have:=(HV.op.lt _ o).1;omega
    .have:=(aS HV.ok _ o).1;omega))
    ((aU.t e).aj O aI) ((e.aT cY).aj O aI)
    (by
     rintro n(o|o|o|o)
     .exact J<|x n<|J o
     .obtain aa|aa:=bl n o
      .exact J<|x n<|bj<|J aa
      grind
     .simp[cN]at o
     .obtain aa|aa:=br n o
      .exact J<|x n<|bj<|bj<|bj aa
      grind)
    (by rw[ag an];simp) (by
     grind[mem_singleton,ag])
    (by rw[ag Hb];simp[iG];omega) bo (eH.2 ⟨t,ar,λbd _ g9 a=>by rw[bY.1 a];intro _ _ m9 hz;cases hz⟩) HK.da ho hw)
   clear al bl br O x bp cr bi t r y5 y9;gi_wp2_with(first
    |(gi_at_builtin;refine gl _ z (.tmp 27) (.tmp 28) 31 z (G (H a)+8) 5 i0 (.int .u8 0) 1 1 underlying31 bq bT ca cb z cg _ 0 ((iG []).map (Value.int .u8)) z (ct _ _ _ _) (X cl D) ce cm ((iG j).map (Value.int .u8)) z (by rw[cS,ag Hb,tF]) aD (by intro ch hu;simp only[cC]at hu;obtain⟨g9,_,rfl⟩:=hu;rfl) U U bc ?_;intro v6 w6 u T;obtain⟨⟨y0,y1⟩,⟨y2,y3⟩,B2,hP,A,F⟩:=aV v6 w6 (ag Hb▸u) T;obtain⟨x6,c6,rfl⟩:=aM u;simp only[ez]at y2 y3 hP A;rw[bt]at y2;have HP:=ak hP;have C:=ak A;have ax:=ak F;clear u T hP A F))
   have e1:ji (g++[(cc,j)])=ji g++j:=vG _ _ _;have e2:((cc:Y)+y j)=((y (ji g)+y j:R):Y):=U;rw[e2];refine⟨trivial,B2,?_,(ab.aT ar).aj C aI,C.A lr av bh,λn c=>(ax n c).imp_right<|λo=>U⟩;show Jb a _ (ji<|g++[(cc,j)]) B2 _;rwa[e1]
  .have x:∀n,wQ (G<|H a) (G (H a)+5) dv (am px cj pc) kv n->bf n:=λn c=>(HB n).2 c;have bc:=k.D;have aD:=ak<|vO ad.bB;have aV:=ak<|λ(v6:ae)(w6:Z)ho hw=>TT (w:=a) (w6:=w6) (v6:=v6) (p:=ji g) (cs:=q) (cur:=d) (gg:=j) (B:=bf) (W2:=W2) k (HF.aA e id) (aU.t e) (e.aT cY) aI an ao (by rw[ag Ha,ag Hb];omega) bo bg HK.da ho hw;clear x y9;gi_wp2_with fail
   refine⟨trivial,(CallsIn.inRound lr<|ew.2<|Gq ((cj:Y)+ce) _ U U).mono ?_⟩;rintro aa w4⟨rfl,cu⟩;subst w4;gi_wp2_with(first
    |(gi_at_builtin;refine gl _ z (.tmp 27) (.tmp 28) 31 z (G (H a)+8) 5 i0 (.int .u8 0) 1 1 underlying31 bq bT ca cb z cg _ cj ((iG d).map (Value.int .u8)) z (by have O:=k.op;unfold fy at O;rwa[ag Ha]at O) (X cl D) ce cm ((iG j).map (Value.int .u8)) z (by rw[cS,ag Hb,tF]) aD (by intro ch hu;simp only[cC]at hu;obtain⟨g9,_,rfl⟩:=hu;rfl) U U bc ?_;intro v6 w6 u T;let⟨⟨y0,y1⟩,⟨y2,y3⟩,B2,hP,A,F⟩:=aV v6 w6 (ag Ha▸ag Hb▸u) T;obtain⟨x6,c6,rfl⟩:=aM u;rw[bt]at y2;have HP:=ak hP;have C:=ak A;have ax:=ak F;clear u T hP A F))
   have e1:ji (g++[(cc,j)])=ji g++j:=vG _ _ _;have e2:((cc:Y)+y j)=((y (ji g)+y j:R):Y):=U;rw[e2];refine⟨trivial,B2,?_,(ab.aT ar).aj C aI,C.A lr av bh,λn c=>(ax n c).imp_right<|λo=>U⟩;show Jb a _ (ji<|g++[(cc,j)]) B2 _;rwa[e1]
 intro Q bf cd ap w C _ hK;let⟨q,d,dv,pv,kv,hv,hcut,s,v,E,t,hB⟩:=w.ex;rw[CS]at hcut E hv;(have ac:0<y d:=by grind);have r:=Ug W b f i q d hv (HT.dD (w.aA.dD (aq _) cY) bE) hg (λcv ch hj=>w.aA.u (HC cv ch hj) id hg) (cQ▸hcut) (aq _) ac hl s v;have x:¬wQ (G<|H a) (G (H a)+5) dv pv kv Q:=λo=>C<|(hB Q).2 o;have HX:=ak (show∀B j u,nr B (G (H a)+8) (G<|H a) (G (H a)+1) (G (H a)+2) (G (H a)+3) (G (H a)+4) (G (H a)+5) (bX W b (y i) f) j aF u (y (q++[d]).flatten) (y i) (gD<|q++[d]) (iG []) (dK 0<|q++[d])->I (wQ (G<|H a) (G (H a)+5) dv pv kv) cd B->(∀bd,cN j=M bd->cN dv=M bd\/G (H cd)<=bd)->(∀bd,cN u=M bd->cN kv=M bd\/G (H cd)<=bd)->(fy B (G<|H a) j (gD<|q++[d])/\fD B (G<|H a) 383 5 u (y<|q++[d]) (fK<|dK 0<|q++[d]))/\I aC a B/\B.heap[Q]?=M (.deferred<|M [])/\cN j≠M Q/\cN u≠M Q from by intro B j u k e hd c;have h1:=k.ok;rw[lC]at h1;have ab:=az hK;exact⟨⟨k.od.pO U,fh h1 U⟩,w.aA.aj e<|λn c=>bj<|hv.da n c,(e.A Q ab x).trans hK,λo=>by obtain aa|aa:=hd Q o;exact x<|bj<|J aa;omega,λo=>by obtain aa|aa:=c Q o;exact x<|bj<|bj<|bj aa;omega⟩);have ad:=w.fn.u;have HP:=ak<|show sq i (q++[d])from⟨by rw[hcut];simp,λo hc=>aI,t⟩;clear w hcut s E t hB hv C x ac;generalize q++[d]=T at*;(gi_wp2_with fail);refine⟨trivial,(ew.2 r).mono ?_⟩;rintro aa B⟨rfl,⟨j,u,k,D,F⟩,e⟩;have:=k.d.u;have:=k.k.u;let⟨⟨K,N⟩,al,O,an,ao⟩:=HX B j u k e D F;obtain⟨x4,c4,rfl⟩:=aM K;obtain⟨x5,c5,rfl⟩:=aM N;have:=az O;clear k e D F ad r hK;(gi_wp2_with fail);apply Av.2;(go_quiet(fail));gi_wp2;refine⟨ar,J ⟨_,_,z,run_takeDeferred O,?_⟩⟩;refine⟨_,jw z _ _ _,?_⟩;have A:=(gO (λn=>n=Q) B nq).aj (iB (B.drewN nq) Q<|.deferred dE)<|λ_ h=>J h;exact⟨_,_,T,z,HP,A.aZ K<|λn c o=>an<|o▸c,A.aZ N<|λn c o=>ao<|o▸c,al.aj A aI⟩
end
structure pS.Can(k:pS):Prop where
 D:k.D<=512
 c1:1<=k.A
 c2:k.A<=100
 f1:1<=k.eJ.size
 f8:k.eJ.size<=8
 l1:1<=k.eP.size
 l8:k.eP.size<=8
 le:kG k.eP k.eJ=bD
def SE:(prog.info? 383).map (λi=>(i.zero,i.size,i.bytes))=M (M<|ef #[ay 0,ay 0,ay 0,aw ⟨#[]⟩,aw ⟨#[]⟩],5,56):=aH
def WQ(x c m9 u v:ae)(t:TypeId)(d:b=G (H a)):∀j q,[x,c,m9,u,v][j]?=M q->bA (dw a<|aK #[x,c,m9,u,v] t) (((X b 0):Addr).add j)=M q:=by
 intro j q e;subst d;rw[dS];simp_all
def WW(a:la)(k:pS):fK (a++[k])=fK a++[ay k.p,ay k.D,ay k.A,aw k.eJ,aw k.eP]:=by simp[fK,pS.bU]
def FH(a b:af):(Op.bytesLess a.toList b.toList||a.toList==b.toList)=!kG b a:=by rw[<-Ud];simp
def L0(t:TypeId)(a b:af):binOp .leq t (aw a) (aw b)=pure (aO<|Op.bytesLess a.toList b.toList||a.toList==b.toList):=by simp[binOp,Op.stringOp]
def zcy(w a:Z)(k:pS)(e:Ending):Prop:=∃b,e=aN (aO b)/\(b=cz->k.Can)/\a=dw w (aK #[ay k.p,ay k.D,ay k.A,aw k.eJ,aw k.eP] 383)
def Zw(n:pS)(x:Z)(v:n.D<4294967296/\n.A<4294967296)(s:n.eJ.size<=255)(t:n.eP.size<=255):cR bN 242 #[n.t] x λr w=>zcy x w n r:=by
 let⟨pos,c,a,first,b⟩:=n;simp only at v s t;unfold pS.t;simp only;have g:=λW=>rl first W U
 have i:=λW=>rl b W U;have u:(512:Y)<c\/((c:Y)<=512/\(a:Y)<1)\/((c:Y)<=512/\(1:Y)<=a/\(100:Y)<a)\/((c:Y)<=512/\(1:Y)<=a/\(a:Y)<=100/\decide (1<=first.size/\first.size<=8)=bD)\/((c:Y)<=512/\(1:Y)<=a/\(a:Y)<=100/\decide (1<=first.size/\first.size<=8)=cz/\decide (1<=b.size/\b.size<=8)=bD)\/((c:Y)<=512/\(1:Y)<=a/\(a:Y)<=100/\decide (1<=first.size/\first.size<=8)=cz/\decide (1<=b.size/\b.size<=8)=cz/\(Op.bytesLess first.toList b.toList||first.toList==b.toList)=bD)\/((c:Y)<=512/\(1:Y)<=a/\(a:Y)<=100/\decide (1<=first.size/\first.size<=8)=cz/\decide (1<=b.size/\b.size<=8)=cz/\(Op.bytesLess first.toList b.toList||first.toList==b.toList)=cz):=by cases decide (1<=first.size/\first.size<=8)<;>cases decide (1<=b.size/\b.size<=8)<;>cases(Op.bytesLess first.toList b.toList||first.toList==b.toList)<;>simp<;>omega
 have:(0:Y)<=c:=U;obtain d|⟨d,e⟩|⟨d,e,j⟩|⟨d,e,j,f⟩|⟨d,e,j,f,k⟩|⟨d,e,j,f,k,l⟩|⟨d,e,j,f,k,l⟩:=u;all_goals first|rw[f]at g|skip
 all_goals first|rw[k]at i|skip
 (all_goals(go_in);go_wp21);iterate 3 ·(go_ret;exact⟨bD,z,ar,z⟩)
 (all_goals go_call g _ as r o⟨rfl,m⟩;subst o;go_wp21);(.go_ret;exact⟨bD,z,ar,z⟩);(all_goals go_call i _ as r o⟨rfl,m⟩;subst o;go_wp2;go_ret);iterate 2 ·exact⟨bD,z,ar,z⟩
 have p:=lJ f;have q:=lJ k;rw[FH]at l;exact⟨cz,z,λ_=>⟨by show c<=512;omega,by show 1<=a;omega,by show a<=100;omega,p.1,p.2,q.1,q.2,dV l⟩,z⟩
def jM(a:la):R:=(a.map pS.D).sum
def nC(a:la):R:=(a.map pS.A).sum
def iQ(a:la):af:=(a.getLast?.map pS.eP).getD ⟨#[]⟩
structure ny(ks:la):Prop where
 ne:1<=y ks
 dL:y ks<=100
 l:∀k∈ks,k.Can
 MY:nC ks<=100
 p:∀n(h:n<y ks),ks[n].p=jM (ks.take n)
 S:∀n(h:n<y ks),kG (iQ<|ks.take n) ks[n].eJ=cz
def Rk(a:la)(k:pS):jM (a++[k])=jM a+k.D:=by simp[jM]
def Eh(a:la)(k:pS):nC (a++[k])=nC a+k.A:=by simp[nC]
def BO(a:la)(k:pS):iQ (a++[k])=k.eP:=by simp[iQ]
def Kl(a:la)(n:R):nC (a.take n)<=nC a:=by
 have h:=cD (λl=>(l.map pS.A).sum)<|du n a;simp only[bz,eX]at h;unfold nC;omega
def Ny(h:∀k∈L,k.Can):jM L<=512*y L:=by
 induction L with
 |nil=>simp[jM]
 |cons k L b=>
  have:=(h k ar).D;have:=b (λj a=>h j<|by simp[a]);unfold jM at*;grind
def pS.Can.A{k:pS}(h:k.Can):k.Fits:=⟨bP h.D,bP h.c2,bP h.f8,bP h.l8⟩
def Pn(s:af)(b:s.size<=255):ki (iM s):=by
 intro x a;unfold iM at a;obtain rfl|a:=dy.1 a;omega;exact ki.XJ s x a
def Zr{k:pS}(h:k.Fits):ki (uA k):=(ki.le 4 _).jN<|(ki.le 4 _).jN<|(Pn _ h.eJ).jN<|Pn _ h.eP
def L6(h:∀k∈L,k.Fits):ki (L.flatMap uA):=by
 intro x a;let⟨k,b,a⟩:=pU.1 a;exact Zr (h k b) x a
structure zaw(w0 w:Z)(rb:R)(dz cut isz sum:Y)(bs:eD)(N:R)(ks:la)(r:eD)(s:eN)(o:ae):Prop where
 aZ:fD w (G<|H w0) 383 5 o (y ks) (fK ks)
 rd:Rd w rb r s
 L:ki r
 dL:y r<=100000000000000
 g:w.heap[G<|H w0]?=M (aK #[bw dz,eI cut,eI isz,eI sum] 234 (0,0))
 aA:I aC w0 w
 d:G (H w0)<rb
 f:∀k,cN o=M k->rb<k
 dq:s=bD->bs=le 4 N++(ks.flatMap uA++r)
 l:∀k∈ks,k.Can
 p:∀n(h:n<y ks),ks[n].p=jM (ks.take n)
 S:∀n(h:n<y ks),kG (iQ<|ks.take n) ks[n].eJ=cz
def Co{rest:eD}{m6:eN}(a:ki rest)(h:(fY rest m6 4).2.1=bD):m6=bD/\rest=le 4 (dz rest m6 4)++(fY rest m6 4).1:=by
 let⟨b,d,c⟩:=uG h;have:=LK _ (ki.lO (n:=4) (m6:=m6) a).2;rw[c]at this;exact⟨b,by unfold dz;rwa[this]⟩
def zar(w g:Z)(b:eD)(c d e:Y)(h:Ending):Prop:=∃(f:ae)(ok:eN),h=aN (de #[f,aO ok])/\I aC w g/\(ok=cz->∃a,ny a/\(jM a:Y)=c/\b=iD a/\pt b=e/\(y b:Y)=d/\fD g (G<|H w) 383 5 f (y a) (fK a))
def IB(o i j k:Y)(hT:Steps a)(hb:Bytes a d m)(L:ki m)(hr:y m<=100000000000000)(hv:∀dT,cN d=M dT->dT<G (H a))(hcut:0<=i/\i<4294967296)(dn:0<=j/\j<4294967296):cR bN 182 #[d,ef #[bw o,eI i,eI j,eI k]] a λQ w'=>zar a w' m i j k Q:=by
 let⟨i0,bi,ca,cb,cd⟩:=cZ SE;obtain⟨dk,dv,rfl⟩:∃dk dv,d=am dk (y m) dv:=by obtain⟨rfl,rfl⟩|⟨dT,b,c,rfl,_⟩:=hb;exact⟨_,_,z⟩;exact⟨_,_,z⟩
 have e1:IntKind.i64.wrap i=i:=by rw[bR];omega
 have e2:IntKind.i64.wrap j=j:=by rw[bR];omega
 have D:∀av,av.heap=(dw a<|aK #[bw o,eI i,eI j,eI k] 234).heap->cR bN 186 #[am dk (y m) dv] av λQ w'=>Q=aN (eI<|pt m)/\w'=av:=λav b=>sV _ m av ((hT.aE _).df b) ((hb.aE _).df b) U;clear hT;have hD:(pt m !=k)=cz\/((pt m !=k)=bD/\((y m:Y)!=j)=cz)\/((pt m !=k)=bD/\((y m:Y)!=j)=bD):=by cases(pt m !=k)<;>cases((y m:Y)!=j)<;>simp
 obtain h1|⟨h1,h2⟩|⟨h1,h2⟩:=hD;iterate 2 ·(go_in;go_wp21;go_quiet(first|(go_at_call 186;refine Calls.quiet_of_same (D _ z)));go_wp2;go_ret2;exact⟨aF,bD,z,(cI aC a).df z,ar⟩)
 go_in
 go_wp21;go_quiet(first|(go_at_call 186;refine Calls.quiet_of_same (D _ z)))
 have F:∃l,(dw a<|aK #[bw o,eI i,eI j,eI k] 234).drewN nq=l/\I aC a l/\l.heap[G<|H a]?=M (aK #[bw o,eI i,eI j,eI k] 234 (0,0))/\Bytes l (am dk (y m) dv) m/\G (H a)<G (H l):=⟨_,z,(cI aC a).df z,aQ _ z,(hb.aE _).df z,ar⟩;let⟨l,F,bv,bl,ba,cc⟩:=F;rw[F];have bm:=oM ba<|λt u=>bP<|hv t u;clear F ba D;go_wp21;go_call bm as Q w2⟨rfl,W,N⟩;subst N;have bT:=vk (G<|H l) bD _ W L U;have n1:=jU (n:=4) (m6:=bD) L;have i1:=(ki.lO (n:=4) (m6:=bD) L).1;have v1:=λq=>(Co (rest:=m) (m6:=bD) L q).2;have l1:=(jd m bD 4).1;clear W;generalize dz m bD 4=nn at*;generalize fY m bD 4=dx at*;let⟨O,B,A3⟩:=dx;simp only at*;go_wp21;go_call bT as Q w3⟨rfl,aa,ap⟩;have cm:=ak v1;clear v1;have dc:=ap.size;simp at dc;have cT:I aC a w3:=bv.aj ((cI (λt=>t=G (H l)) l).aj (gH ap)<|λ_=>J)<|λt u=>bj U;clear bT bm;have hN:nn<1\/(1<=nn/\100<nn)\/∃al:R,nn=al/\1<=al/\al<=100:=by obtain q|q:=xZ nn 1;exact J q;obtain q2|q2:=xZ 100 nn;exact bj<|J ⟨q,q2⟩;exact bj<|bj ⟨nn.toNat,U,U,U⟩
 obtain hN|⟨hN,cu⟩|⟨al,rfl,eb,cu⟩:=hN;iterate 2 ·(go_wp2;go_ret2;exact⟨aF,bD,z,cT,ar⟩)
 go_wp2_with(first
  |(at_make;go_loud(refine ke _ z _ _ 319 z (G (H a)) 383 i0 (.agg #[.int .i64 0,.int .i64 0,.int .i64 0,.string ⟨#[]⟩,.string ⟨#[]⟩]) 5 underlying319 bi ca cb _ _ _ al z z U (by rw[cd];omega) (by unfold maxLen;omega) U ?_;intro w4 V T;have ck:=ak V;have ac:=ak T;clear V T)))
 have eg:=ac.size;have hA0:zaw a w4 (G<|H l) o i j k m al [] O B (bX (G<|H w3) 0 0 al):=by have c:I (λt=>t=G (H l)) l w3:=(cI (λt=>t=G (H l)) l).aj (gH ap)<|λ_=>J;have b:I (λt=>t=G (H l)) l w4:=c.t<|I.eF (S:=aC) ac ar;refine⟨ck,aa.ni ac,i1,U,(b.A _ (az bl) (by intro Q;omega)).trans bl,bv.aj b<|λt u=>bj U,cc,?_,ag cm,ar,ar,ar⟩;intro t u;simp[cN]at u;omega
 clear i1 l1 aa;go_loopw [8,9,10,11,39] (λc p q ch b wr=>∃(g:la)(dd:eD)(ce:eN),y g<=al/\b=eI (y g)/\p=ay (jM g:R)/\q=ay (nC g:R)/\ch=aw (iQ g)/\zaw a wr (G<|H l) o i j k m al g dd ce c) (λ_ _ _ _ b _=>al-(intOf b).toNat)
 exact⟨[],O,B,bQ _,z,z,z,z,hA0⟩
 .obtain⟨g,dd,ce,ec,rfl,rfl,rfl,rfl,f⟩:=hrel;let⟨ox,oc,ho⟩:=aM f.aZ;have ds:=f.rd.lt;have ei:=f.aA.D;have bs:jM g<=51200:=bP<|Ny f.l;have bf:nC g<=10000:=by
   have:∀ch:la,(∀t∈ch,t.Can)->nC ch<=100*y ch:=λch=>by
    induction ch with
    |nil=>simp[nC]
    |cons t ch c=>
     intro b;have h1:=c (λq a=>b q<|by simp[a]);have h2:=(b t ar).c2;unfold nC at*;simp;omega
   have:=this g f.l;omega
  by_cases cM:y g<al
  .have i1:=(ki.lO (n:=4) (m6:=ce) f.L).1;have l1:=(jd dd ce 4).1;have n1:=jU (n:=4) (m6:=ce) f.L;have l0:=f.dL;have ao:=vk (G<|H l) ce wr f.rd f.L U;have v1:=λq=>Co (rest:=dd) (m6:=ce) f.L q;generalize dz dd ce 4=z1 at*;generalize fY dd ce 4=dx at*;let⟨O,B,A3⟩:=dx;simp only at*;have i2:=(ki.lO (n:=4) (m6:=B) i1).1;have l2:=(jd O B 4).1;have n2:=jU (n:=4) (m6:=B) i1;have bb:=λav(d:Rd av (G<|H l) O B)=>vk (G<|H l) B av d i1 U;have v2:=λq=>Co (rest:=O) (m6:=B) i1 q;generalize dz O B 4=z2 at*;generalize fY O B 4=el at*;let⟨B1,B2,B3⟩:=el;simp only at*;have i3:=(qX B1 B2).2 i2;have l3:=(qX B1 B2).1;have bc:=λav(d:Rd av (G<|H l) B1 B2)=>Cp d i2 U;have v3:=λq=>AD (rest:=B1) (m6:=B2) i2 q;generalize nP B1 B2=em at*;let⟨C1,C2,C3⟩:=em;simp only at*;have i4:=(qX C1 C2).2 i3.1;have l4:=(qX C1 C2).1;have bd:=λav(d:Rd av (G<|H l) C1 C2)=>Cp d i3.1 U;have v4:=λq=>AD (rest:=C1) (m6:=C2) i3.1 q;generalize nP C1 C2=en at*;let⟨D1,D2,D3⟩:=en;simp only at*;generalize qK C3=first at*
   generalize qK D3=e at*;obtain⟨c,rfl⟩:∃ab:R,z1=ab:=⟨z1.toNat,U⟩;obtain⟨b,rfl⟩:∃ab:R,z2=ab:=⟨z2.toNat,U⟩;let⟨pos,C⟩:∃ab,jM g=ab:=⟨_,rfl⟩;have e3:IntKind.i64.wrap (c:Y)=c:=by rw[bR];omega
   have e4:IntKind.i64.wrap (b:Y)=b:=by rw[bR];omega
   have p:=λav=>Zw ⟨pos,c,b,first,e⟩ av ⟨by show c<_;omega,by show b<_;omega⟩ i3.2.2 i4.2.2;unfold pS.t at p;simp only at p;have aU:D2=bD->m=le 4 al++((g++[(⟨pos,c,b,first,e⟩:pS)]).flatMap uA++D1):=λq=>by
    let⟨q3,cs⟩:=v4 q;let⟨q2,cr⟩:=v3 q3;let⟨q1,cp⟩:=v2 q2;let⟨q0,co⟩:=v1 q1;rw[f.dq q0,co,cp,cr,cs,gR];simp[uA]
   clear v1 v2 v3 v4;let⟨HA,aD,cj,P⟩:=jr f (show∀(dk:eN)(a:Z),(Op.unary .not<|aO dk).run bN a=.ok (aO<|!dk) a fromλ_ _=>rfl) i4.1 C;rw[C]at bs|-;clear f i1 i2 i3 i4 C;subst ho;let⟨ll,bk⟩:∃ll,iQ g=ll:=⟨_,rfl⟩;let⟨E,w⟩:∃E,nC g=E:=⟨_,rfl⟩;rw[w]at bf|-;rw[bk];go_wp21;go_call ao as Q w5⟨rfl,bo,cv⟩;have N:=bb w5 bo;clear bo ao bb;go_wp21;go_call N as Q w6⟨rfl,bp,cx⟩;have bE:=bc w6 bp;clear bp N bc;go_wp21;go_call bE as Q w7⟨rfl,bq,cB⟩;have bL:=bd w7 bq;clear bq bE bd;go_wp21;go_call bL as Q A⟨rfl,br,bg⟩;clear bL;have x:I (λt=>t=G (H l)) wr A:=(((gH cv).aj (gH cx)<|λ_=>J).aj (gH cB)<|λ_=>J).aj (gH bg)<|λ_=>J;have bt:G (H l)<G (H A):=bP x.D;have ad:=ak<|show I aC a A from HA.aA.aj x<|λt u=>bj U;have cl:=ak<|show fD A (G<|H a) 383 5 (am ox (y g) oc) (y g) (fK g)from x.aZ HA.aZ<|λt u Q=>bP<|HA.f t u;have HX:=ak (show pS.Can ⟨pos,c,b,first,e⟩->kG ll first=cz->∀o2 r,fD r (G<|H a) 383 5 o2 (y g+1) (fK g++[ay pos,ay c,ay b,aw first,aw e])->fm (dw (dw (dw A<|aK #[ay pos,ay c,ay b,aw first,aw e] 383)<|aK #[ay pos,ay c,ay b,aw first,aw e] 383)<|aK #[ay pos,ay c,ay b,aw first,aw e] 383) r (am ox (y g) oc) o2->Cf r (G<|H A) ⟨pos,c,b,first,e⟩/\zaw a r (G<|H l) o i j k m al (g++[⟨pos,c,b,first,e⟩]) D1 D2 o2 from by
    intro s aV o2 r v n;have f:=ag HA;have bt:=x.D;have bn:=f.aZ.lt;have bx:I (λt=>cN (am ox (y g) oc)=M t) A r:=((((I.bI (λt=>cN (am ox (y g) oc)=M t) A).aE _).aE _).aE _).aj (I.fU n)<|λ_=>J;have K:Cf (dw A<|aK #[ay pos,ay c,ay b,aw first,aw e] 383) (G<|H A) ⟨pos,c,b,first,e⟩:=aQ _ z;have db:I (λt=>cN (am ox (y g) oc)=M t) (dw A<|aK #[ay pos,ay c,ay b,aw first,aw e] 383) r:=(((I.bI (λt=>cN (am ox (y g) oc)=M t) _).aE _).aE _).aj (I.fU n)<|λ_=>J;have an:=f.f;refine⟨K.aA db<|λQ=>bP<|(bn _ Q).2,?_,?_,cj,bP f.dL,?_,?_,f.d,?_,aU,?_,?_,?_⟩
    .rwa[WW,ai]
    .exact(((br.ni<|eR A (aK #[ay pos,ay c,ay b,aw first,aw e] 383) dE).ni<|eR _ (aK #[ay pos,ay c,ay b,aw first,aw e] 383) dE).ni<|eR _ (aK #[ay pos,ay c,ay b,aw first,aw e] 383) dE).lA n an
    .exact(bx.A _ U<|λQ=>gV (an _ Q) f.d).trans<|(x.A _ (az f.g) U).trans f.g
    .exact(ag ad).aj bx<|λt u=>bj (bn t u).1
    .intro t u;obtain ea|⟨g9,ea,hy⟩:=n.f
     .exact an t<|ea.symm.trans u
     .rw[ea]at u;cases u;simp at hy;omega
    .intro t u;obtain q|q:=aP.1 u
     .exact f.l t q
     .rwa[bY.1 q]
    .intro ab h;rw[ul];split
     .rename_i q;rw[f.p ab q,jQ U]
     .rename_i q;have:ab=y g:=by simp at h;omega
      subst this;simp[<-ag P]
    .intro ab h;rw[ul];split
     .rename_i q;rw[jQ U];exact f.S ab q
     .rename_i q;have:ab=y g:=by simp at h;omega
      subst this;simp[bk,aV])
   clear x br bg;have dr:=ag aD;go_wp21;go_call p _ as Q w9⟨gb,rfl,bh,ed⟩;subst w9;clear p;cases gb
   .go_wp2;go_ret2
    exact⟨aF,bD,z,((ag ad).aE _).aE _,ar⟩
   have s:=bh z;clear bh;cases ha:kG ll first
   .have a8:(Op.bytesLess first.toList ll.toList||first.toList==ll.toList)=cz:=by rw[FH,ha];rfl
    go_wp2;go_ret2
    exact⟨aF,bD,z,((ag ad).aE _).aE _,ar⟩
   have a8:(Op.bytesLess first.toList ll.toList||first.toList==ll.toList)=bD:=by rw[FH,ha];rfl
   have f1:=s.D;have f2:=s.c2;simp only at f1 f2;have cn:=ak<|ag HX s ha;clear s HX ha;go_wp2_with(first
    |(at_builtin;go_loud(refine cq _ z (.tmp 62) (.tmp 64) 319 z (G (H a)) 383 i0 (.agg #[.int .i64 0,.int .i64 0,.int .i64 0,.string ⟨#[]⟩,.string ⟨#[]⟩]) 5 56 underlying319 bi ca cb cd z cg (.slice ox (y g) oc) (y g) (fK g) z (bC (bC (bC cl _) _) _) (X (G (H A)+2) 0) 1 1 [.int .i64 pos,.int .i64 c,.int .i64 b,.string first,.string e] z z (WQ _ _ _ _ _ _ ar) (by simp[Value.oneCell']) U U dW ?_;intro o2 r v n;let⟨K,hA10⟩:=cn o2 r v n;let⟨m0,m1,m2,m3,m4⟩:=K.bU;simp only at m0 m1 m2 m3 m4;obtain⟨ek,ej,rfl⟩:=aM v;have ax:=ak hA10;clear v n hA10 K)))
   go_quiet(fail)
   go_wp2;go_roundw
   .refine⟨g++[⟨pos,c,b,first,e⟩],D1,D2,ai▸cM,by rw[ai];go_num,?_,?_,?_,?_⟩
    .rw[Rk,ag P];go_num
    .rw[Eh,w];go_num
    .rw[BO]
    .have f:=ag ax;exact⟨f.aZ,f.rd,f.L,f.dL,f.g,f.aA.df z,f.d,f.f,f.dq,f.l,f.p,f.S⟩
   .simp[intOf];omega
  .have s:y g=al:=U;have p:=Ae f.rd<|bP f.dL;have ao:=aX f.g 1;let⟨n,c⟩:∃n,jM g=n:=⟨_,rfl⟩;let⟨E,w⟩:∃E,nC g=E:=⟨_,rfl⟩;let⟨e,b⟩:∃e,(!ce&&dd.isEmpty)=e:=⟨_,rfl⟩;have r:e=cz->(n:Y)=i->(E:Y)<=100->zar a wr m i j k (aN<|de #[am ox (y g) oc,aO cz]):=λq0 q1 q2=>
    ⟨_,cz,z,f.aA,λ_=>⟨g,⟨U,U,f.l,U,f.p,f.S⟩,c▸q1,by
     rw[q0]at b;simp at b;rw[f.dq b.1,b.2,iD,s,eu],dV h1,dV h2,by have:=f.aZ;rwa[ho]at this⟩⟩
   have v:=ak f.aA;clear f;subst ho;rw[b]at p;clear b;rw[c,w];rw[c]at bs;rw[w]at bf;have A:e=bD\/(e=cz/\(((n:Y)==i)=bD))\/(e=cz/\((n:Y)==i)=cz/\decide ((E:Y)<=100)=bD)\/(e=cz/\((n:Y)==i)=cz/\decide ((E:Y)<=100)=cz):=by
    cases e<;>cases((n:Y)==i)<;>cases decide ((E:Y)<=100)<;>simp
   clear c w;have:¬((y g:Y)<(al:Y)):=U;obtain rfl|⟨rfl,x⟩|⟨rfl,x,C⟩|⟨rfl,x,C⟩:=A;all_goals
    go_wp21;go_call p as Q w5⟨rfl,K⟩;subst w5;go_wp2;go_ret2
   iterate 3 ·exact⟨_,bD,z,v,ar⟩
   .have h:=r trivial (dV x)<|dV C;rwa[s]at h
abbrev Fs:=cy<|af×eD
variable{N:Fs}
def vw(a:cy dj):Fs:=a.map<|λf=>(f.dA,f.bB)
def fo:Fs->af->Option eD
 |[],_=>dE
 |f::r,n=>if f.1=n then M f.2 else fo r n
def si:Fs->af->Fs
 |[],_=>[]
 |f::r,n=>if f.1=n then r else f::si r n
def pq:Fs->af×eD->Fs
 |[],f=>[f]
 |g::r,f=>if g.1=f.1 then f::r else g::pq r f
def BW(a:Fs):R:=(a.map (·.2.length)).sum
def XE(a:cy dj):ft a=BW (vw a):=by
 unfold ft BW vw;rw[iV];rfl
def nH(a:cy dj)(n:af):fo (vw a) n=(ii a n).map dj.bB:=by
 induction a with
 |nil=>rfl
 |cons f r b=>
  unfold vw at*;by_cases h:f.dA=n<;>simp[fo,ii,h,b]
def vp(a:cy dj)(n:af):vw (mJ a n)=si (vw a) n:=by
 induction a with
 |nil=>rfl
 |cons f r b=>
  unfold vw at*;by_cases h:f.dA=n<;>simp[si,mJ,h,b]
def qj(a:cy dj)(f:dj):vw (pm a f)=pq (vw a) (f.dA,f.bB):=by
 induction a with
 |nil=>rfl
 |cons g r b=>
  unfold vw at*;by_cases h:g.dA=f.dA<;>simp[pq,pm,h,b]
def JS(h:fo N B=M m):pq N (B,m)=N:=by
 induction N with
 |nil=>cases h
 |cons g r b=>
  let⟨a,c⟩:=g;by_cases e:a=B
  .subst e;simp[fo]at h;simp[pq,h]
  .simp[fo,e]at h;simp[pq,e,b h]
def Wl(d c:eD)(h:fo N B=dE):pq (N++[(B,d)]) (B,c)=N++[(B,c)]:=by
 induction N with
 |nil=>simp[pq]
 |cons g r b=>
  let⟨a,f⟩:=g;by_cases e:a=B
  .simp[fo,e]at h
  .simp[fo,e]at h;simp[pq,e,b h]
def oe(a b:Fs)(n:af):fo (a++b) n=(fo a n).or (fo b n):=by
 induction a with
 |nil=>simp[fo]
 |cons g r c=>by_cases e:g.1=n<;>simp[fo,e,c]
def uL(b:Fs)(f:af×eD)(n:af):fo (pq b f) n=if f.1=n then M f.2 else fo b n:=by
 induction b with
 |nil=>by_cases e:f.1=n<;>simp[pq,fo,e]
 |cons h r g=>
  by_cases e:h.1=f.1
  .by_cases a:f.1=n<;>simp[pq,fo,e,a]
  .by_cases a:h.1=n
   .have c:¬f.1=n:=aI;have d:¬n=f.1:=λa=>c a.symm;simp[pq,fo,a,c,d]
   .simp[pq,fo,e,a,g]
def Ab(h:fo N B=M m):(B,m)∈N:=by
 induction N with
 |nil=>cases h
 |cons g r c=>
  let⟨a,b⟩:=g;by_cases e:a=B
  .subst e;simp[fo]at h;simp[h]
  .simp[fo,e]at h;grind
def yG{a:cy dj}(h:fo (vw a) B=M m):∃F,ii a B=M F/\F.bB=m:=by
 rw[nH]at h;simp_all
def LZ{a:cy dj}(h:fo (vw a) B=dE):ii a B=dE:=by
 rw[nH]at h;simp_all
def I1(h:mr [.cr B,.ap B m,.sy B] f x)(e:fo (vw f.ah) B=dE):vw x.ah=vw f.ah++[(B,m)]/\y x.l=y f.l+1:=by
 let⟨g,⟨D,C,l,v,n⟩,i,⟨F,E,j,o,w,p⟩,u,⟨t,k,c1,c2,c3⟩,q,A,r⟩:=h;have c:vw g.ah=vw f.ah++[(B,[])]:=by rw[l];simp[vw]
 have b:fo (vw g.ah) B=M []:=by rw[c,oe,e];simp[fo]
 have hF:F.bB=[]:=by rw[nH,j]at b;simpa using b
 have d:vw i.ah=vw f.ah++[(B,m)]:=by rw[o,qj];simp only[hF,ep,(eM j).1];rw[c];exact Wl [] m e
 have a:fo (vw i.ah) B=M m:=by rw[d,oe,e];simp[fo]
 have s:t.bB=m:=by rw[nH,k]at a;simpa using a
 refine⟨?_,by rw[r,c3,p,n.1];simp⟩;rw[q,c1,qj];simp only[s,(eM k).1];rw[JS a,d]
def AK{l:cy tY}:∀{K c:DK},mr l K c->y c.l<=y K.l+y l:=by
 induction l with
 |nil=>
  intro K c h;rw[h.2.2];simp
 |cons o l f=>
  rintro K c⟨d,b,e⟩;have:=f e;have:y d.l<=y K.l+1:=by
   cases o with
   |cr n=>let⟨_,_,_,_,a,_⟩:=b;rw[a];simp
   |ap n g=>let⟨_,_,_,_,_,a⟩:=b;rw[a];simp
   |sy n=>let⟨_,_,_,_,a⟩:=b;rw[a];simp
   |rn i j=>let⟨_,_,_,_,_,a⟩:=b;rw[a];simp
   |rm n=>let⟨_,_,_,_,_,a⟩:=b;rw[a];simp
   |sd=>let⟨_,_,a⟩:=b;rw[a];simp
  rw[bK];omega
def Ow(h:mr [.cr B,.ap B m,.sy B] f x):y x.l=y f.l+1:=by
 let⟨e,⟨_,_,_,_,a,_⟩,g,⟨_,_,_,_,_,b⟩,i,⟨_,_,_,_,c⟩,_,_,d⟩:=h;rw[d,c,b,a];simp
def Nc{db:R}{K:DK}(a:af)(F b i:R){bs:eD}{w:Z}(h:cJ w db K)(hn:y K.l<=1000000000000)(c:qp K.fx)(B:y bs<=1099511627776)(E:ki bs)(C:∀Q S,(bs.map<|Value.int .u8)[Q]?=M S->bA w (X F<|b+Q)=M S)(e:F<G (H w))(r:¬K.j db F)(k:Nm a):cR bN 258 #[aJ db,aw a,bX F b (y bs) i] w λt s=>wT w s db K [.cr a,.ap a bs,.sy a] t:=by
 have D:=Eg a h (λ_=>c) hn k;have V:=ak (show∀l d,pR w l db K d->Qt (.cr a) K d->cR bN 25 #[aJ db,aw a,bX F b (y bs) i] l λt s=>wT l s db d [.ap a bs] t from by exactλl d j _=>Kq a F b i bs j.ok (λ_=>j.fx.D c) (J<|j.fx.D c) B E (λQ S f=>j.aA.u (C Q S f) r e) (au e j.aA.D) (λt=>r<|J t) k);have W:=ak (show∀n g,cJ n db g->Fx K.fx g.fx->cR bN 111 #[aJ db,aw a] n λt s=>wT n s db g [.sy a] t fromλn g j b=>TA a j (λ_=>b.D c) k);have L:=ak h.L;go_in
 go_wp21;go_call D as t l⟨v1,d,rfl,u⟩;obtain⟨rfl,O⟩|⟨ac,q,aa,r1,r2,rfl,r3⟩:=u.d;rotate_left;(.have A:=ak u;go_wp2;go_ret;exact⟨_,d,z,vT.jj (m:=[.ap a bs,.sy a])<|ag A⟩);have P:Qt (.cr a) K d:=by let⟨K',a1,a2,a3,a4⟩:=O;let⟨ab,g9,b1,b2,N⟩:=a1;exact⟨ab,g9,a2.trans b1,a3.trans b2,a4.trans N.1,N.2⟩
 have ha:=V l d u.D P;let⟨f,o,T⟩:=eU u.D O P;go_wp21;go_call ha as t n⟨v2,g,rfl,p⟩;obtain⟨rfl,o2⟩|⟨ac,q,aa,r1,r2,rfl,r3⟩:=p.d;rotate_left;(.have A:=ak<|vT.jj (m:=[.sy a])<|vT.t L f o p;go_wp2;go_ret;exact⟨_,g,z,A⟩);have hs:=W n g p.D.ok (f.aj p.D).fx;have v:=ak<|f.aj p.D;have x:=ak<|mr.EZ o o2;go_wp21;go_call hs as t w3⟨v3,K3,rfl,h3⟩;have hr:=vT.t L v x h3;go_wp2;go_ret;exact⟨_,K3,z,hr⟩
def TO{db:R}{K:DK}(a:af){bs:eD}{w:Z}(h:cJ w db K)(A:fo (vw K.ah) a=M bs)(k:Nm a):cR bN 70 #[aJ db,aw a] w λt E=>RdP w E db K bs t:=by
 obtain⟨F,hF,rfl⟩:=yG A;have B:y F.bB<=1099511627776:=h.dL (eM hF).2.1;have r:=TG a h k;have n:=ak<|λ(s:Z)x(b:pR w s db K {K with fx:=x})=>Jw a 0 (y F.bB) b.ok hF (bQ _) B k;have v:=ak h.L;go_in
 go_wp21;go_call r as t s⟨x,b,⟨u,g,rfl⟩|⟨g,_⟩|⟨o,q,rfl,p⟩⟩;(·(obtain rfl:F=u:=by rw[hF]at g;cases g;rfl);have l:=n s x b;rw[List.drop_zero,cQ]at l;go_wp21;go_call l as t L⟨f,i,m,j,⟨D,rfl,C⟩|⟨o,q,rfl,p⟩⟩;(.have c:=ak<|b.aj i;have HB:=ak<|Lr C b.aA.D;let⟨e,d⟩:Hid (wR _ f)/\Hid (∀k,f.j db k->K.j db k):=⟨m,j⟩;go_wp2;(go_ret2);exact⟨f,c,e,d,J ⟨D,z,HB⟩⟩);have c:=ak<|b.aj i;have HB:=ak<|b.fx.p v o;let⟨e,d⟩:Hid (wR _ f)/\Hid (∀k,f.j db k->K.j db k):=⟨m,j⟩;go_wp2;(go_ret2);exact⟨f,c,e,d,bj ⟨HB,q,z,p⟩⟩);rw[hF]at g;cases g;let⟨c,HB,d⟩:=eU b o p;go_wp2;(go_ret2);exact⟨_,c,⟨z,z,z⟩,λ_ t=>t,bj ⟨HB,q,z,d⟩⟩
def RnP(w c:Z)(b:R)(K:DK)(e:Ending):Prop:=∃a q d,pR w c b K a/\wR K a/\(∀k,a.j b k->K.j b k)/\e=aN (de #[aF,eW q])/\rC c q d/\(d=10\/d=8/\0<K.fx.bd)
def Jv{db:R}{K:DK}(a:af){w:Z}(h:cJ w db K)(l:fo (vw K.ah) a=dE)(d:Nm a):cR bN 70 #[aJ db,aw a] w λg m=>RnP w m db K g:=by
 have f:=TG a h d;have hF:=LZ l;go_in
 go_wp21;go_call f as g o⟨p,i,⟨n,c,rfl⟩|⟨c,q,rfl,e⟩|⟨k,q,rfl,e⟩⟩;rw[hF]at c;cases c;(.have b:=ak i;go_wp2;(go_ret2);exact⟨_,q,10,b,⟨z,z,z⟩,λ_ g=>g,z,e,J z⟩);let⟨b,HB,j⟩:=eU i k e;go_wp2;(go_ret2);exact⟨_,q,8,b,⟨z,z,z⟩,λ_ g=>g,z,j,bj ⟨z,HB⟩⟩
def vu(h:fD a b c k d n Q)(l:0<n):∃g e,d=bX g 0 n e/\b<=g/\g<G (H a)/\n<=e:=by
 obtain⟨i,⟨_,j⟩|⟨g,e,f,m,o,p,q,_⟩⟩:=h;omega;grind
structure QA(w0 w:Z)(tb:R)(l:dB)(cs:iF)(bb vV db IX:R):Prop where
 f:sq l cs
 D:mQ w tb (ee dE) 0 0 0 0 bb 0 vV (bX db 0 (y<|gD cs) IX) (dK 0 cs)
 A:fy w (G<|H w0) (bX db 0 (y<|gD cs) IX) (gD cs)
 L:fD w (G<|H w0) 383 5 (bX bb 0 (y<|dK 0 cs) vV) (y<|dK 0 cs) (fK<|dK 0 cs)
 lX:G (H w0)<=tb
 aA:I aC w0 w
def Gb(r:dB)(w d k:R)(W:Z)(N:Steps W)(Q:w<G (H W))(O:∀aa ab,(bu r)[aa]?=M ab->bA W (X w<|d+aa)=M ab)(t:y r<=k)(u:0<y r)(l:∀ad∈r,ad.Good)(V:gF r)(i:∀w∈jh r,y w<=10)(S:y r<=1000000):cR bN 131 #[bX w d (y r) k] W λac j=>∃A c e a f b,ac=aN (aJ A)/\QA W j A r c e a f b:=by
 have v:=GH w d k N Q O t u l V i S
 have E:=ak (show∀n q c j,sq r c->fy j (G<|H W) n (gD c)->fD j (G<|H W) 383 5 q (y c) (fK<|dK 0 c)->I aC W j->∃e a f b,q=bX e 0 (y<|dK 0 c) a/\n=bX f 0 (y<|gD c) b/\QA W (dw j<|aK #[ee dE,bw 0,eI 0,eI 0,eI 0,bX e 0 (y<|dK 0 c) a,bX f 0 (y<|gD c) b] 323) (G<|H j) r c e a f b from by
  intro n q c j m o i p;rw[<-lC c 0]at i;have g:0<y (dK 0 c):=by
   rw[lC];obtain K|K:=fN<|y c
   .obtain rfl:=bG K;have:=m.p;grind
   .exact K
  have s:0<y (gD c):=by
   rw[lC]at g;have:=Ui c 0 g;omega
  have:=m.xM;obtain⟨e,a,rfl,b1,b2,F⟩:=vu i g;obtain⟨f,b,rfl,d1,d2,d3⟩:=vu o s;refine⟨e,a,f,b,z,z,m,⟨aQ _ z,?_,g,F,by rw[lC];omega⟩,o.aE _,bC i _,p.D,p.aE _⟩;intro aa ab hj;obtain⟨h1,⟨L,h0⟩|⟨b',B,x,L,_,P⟩⟩:=dQ<|bC i<|aK #[ee dE,bw 0,eI 0,eI 0,eI 0,bX e 0 (y<|dK 0 c) a,bX f 0 (y<|gD c) b] 323
  .omega
  grind)
 go_in
 go_wp2_with(go_at_call 193;refine v.mono ?_;rintro ac C⟨n,q,c,rfl,m,o,i,p⟩;obtain⟨e,a,f,b,rfl,rfl,hF⟩:=E n q c C m o i p;have D:=ak hF;clear m o i p hF)
 go_ret;exact⟨G<|H C,c,e,a,f,b,z,D⟩
section
def EG{a:af}{c:eD}(h:iM B++m=iM a++c):B=a/\m=c:=by
 have b:=(yg B m).1;rw[h,(yg a c).1]at b;injection b with d e;injection e with _ f;exact⟨by rw[<-yh B,<-yh a,f],d.symm⟩
def PO{x g9:E}{a b:eD}(c:x.Good)(d:g9.Good)(h:yI x++a=yI g9++b):x=g9/\a=b:=by
 unfold yI at h;rw[cw,cw]at h;let⟨i,e⟩:=uc h (by rw[dh,dh]);have:x.f=g9.f:=by rw[<-zT c.b0 c.b1,<-zT d.b0 d.b1,i]
 unfold oz at e;rw[dt,dt]at e;injection e with f g;rw[cw,cw]at g;let⟨l,j⟩:=EG g;let⟨m,k⟩:=EG j;refine⟨?_,k⟩;have:x.dP=g9.dP:=by cases c:x.dP<;>cases d:g9.dP<;>rw[c,d]at f<;>simp[qn]at f<;>rfl
 cases x;cases g9;simp_all
def PQ:∀{c d:dB},(∀x∈c,x.Good)->(∀x∈d,x.Good)->y c=y d->iG c=iG d->c=d
 |[],[],_,_,_,_=>rfl
 |[],_::_,_,_,h,_=>by simp at h
 |_::_,[],_,_,h,_=>by simp at h
 |x::c,a::d,b,e,j,h=>by
  have f:yI x++iG c=yI a++iG d:=by simpa[iG]using h
  let⟨g,i⟩:=PO (b x ar) (e a ar) f;rw[g,PQ (λq a=>b q<|by simp[a]) (λq a=>e q<|by simp[a]) (dV j) i]
structure Je(bs:eD)(k:pS)(c:dB):Prop where
 eq:bs=ij (iG c)
 of:k.Of c
 S:∀x∈c,x.Good
 o:gF c
def DE{b:eD}(h:ij m=ij b):m=b:=by
 unfold ij at h;have a:=cD y h;rw[ai,ai,dh,dh]at a;exact(uc h U).1
def Je.Xy{k:pS}{d:dB}(h:Je m k i)(a:Je m k d):i=d:=PQ h.S a.S (h.of.A.symm.trans a.of.A)<|DE<|h.eq.symm.trans a.eq
def Z9(k:pS):dB:=if k.eJ=k.eP then [⟨k.eJ,⟨#[]⟩,cz,0⟩]else [⟨k.eJ,⟨#[]⟩,cz,0⟩,⟨k.eP,⟨#[]⟩,cz,0⟩]
open Classical in
noncomputable def Ft(a:eD)(k:pS):dB:=if h:∃c,Je a k c then h.choose else Z9 k
def Mw{k:pS}(h:Je m k i):Ft m k=i:=by
 unfold Ft;rw[Ax ⟨i,h⟩];exact Je.Xy (Exists.choose_spec (⟨i,h⟩:∃i,Je m k i)) h
def Ij{k:pS}(a:k.Can)(b:eD):k.Fl (Ft b k)/\(∀x∈Ft b k,x.Good)/\gF (Ft b k)/\y (Ft b k)<=100:=by
 by_cases h:∃g,Je b k g;let⟨g,h⟩:=h;rw[Mw h];exact⟨⟨h.of.ne,h.of.eJ,h.of.eP⟩,h.S,h.o,gV h.of.A a.c2⟩;unfold Ft;rw[Fz h];have d:∀s:af,1<=s.size->s.size<=8->E.Good ⟨s,⟨#[]⟩,cz,0⟩:=λs a b=>⟨a,b,by show(⟨#[]⟩:af).size<=16;decide,λ_=>rfl,ar,ar⟩;have c:=d _ a.f1 a.f8;have f:=d _ a.l1 a.l8;unfold Z9;split;rename_i q;exact⟨⟨ar,z,q.symm⟩,dV c,nI _ _,ar⟩;rename_i q;refine⟨⟨ar,z,z⟩,?_,?_,ar⟩;intro x e;simp at e;obtain rfl|rfl:=e;exact c;exact f;refine List.Pairwise.cons ?_<|nI _ _;intro i e;simp at e;subst e;rw[iS];refine J ?_;have:=a.le;show kG k.eJ k.eP=cz;rcases hq:kG k.eJ k.eP with _|_;exact absurd (ou hq this) q;rfl
def E9(h:gF i)(a:0<y i)(d:S∈i):kG S.D (i[0]'a).D=bD:=by
 obtain⟨e,c,rfl⟩:=dJ d;obtain rfl|b:=fN e;exact jq _;obtain q|q:=iS.1<|cW.1 h 0 e a c b;exact sY q;rw[q.1];exact jq _
def XR(h:gF i)(e:0<y i)(c:S∈i):kG (i[y i-1]'U).D S.D=bD:=by
 obtain⟨d,b,rfl⟩:=dJ c;by_cases a:d=y i-1;subst a;exact jq _;obtain q|q:=iS.1<|cW.1 h d (y i-1) b U U;exact sY q;rw[q.1];exact jq _
def Ua{b c:af}(h:kG b B=bD)(k:kG b c=cz):kG B c=cz:=by
 rcases hq:kG B b with _|_;rwa[ou hq h];exact my hq k
def ny.up(h:ny L):∀(d i:R)(a:i+1+d<y L),kG (L[i]'U).eP (L[i+1+d]).eJ=cz
 |0,i,a=>by
  have:=h.S (i+1) a;rwa[show iQ (L.take<|i+1)=(L[i]'U).eP by rw[aG U,BO]]at this
 |d+1,i,a=>by
  have b:=ny.up h d i U;have c:=(h.l _<|aB<|show i+1+d<y L by omega).le;have e:=ny.up h 0 (i+1+d) U;exact my (BR b c) e
noncomputable def Ef(B:R->eD)(a:la):iF:=a.mapIdx<|λi k=>Ft (B i) k
def Ag(B:R->eD)(a:la):y (Ef B a)=y a:=by simp[Ef]
def Ah(B:R->eD)(a:la)(i:R)(h:i<y (Ef B a)):(Ef B a)[i]=Ft (B i) (a[i]'(by rw[Ag]at h;exact h)):=by simp[Ef]
def PV(h:ny L)(B:R->eD):(Ef B L).Pairwise lI:=by
 refine cW.2 λj m f a l x g p i=>?_;rw[Ah]at g i;rw[Ag]at f a;let⟨d,_,n,_⟩:=Ij (h.l _<|aB f)<|B j;let⟨e,_,o,_⟩:=Ij (h.l _<|aB a)<|B m;have b:=XR n d.ne g;have c:=E9 o e.ne i;rw[<-d.eP]at b;rw[<-e.eJ]at c;obtain⟨k,rfl⟩:∃k,m=j+1+k:=⟨m-j-1,U⟩;exact BR (Ua b<|h.up k j a) c
def o9(h:ny L)(B:R->eD):gF (Ef B L).flatten:=by
 refine sF.2 ⟨λf b=>?_,(PV h B).imp λq x c a d=>iS.2<|J<|q x c a d⟩;obtain⟨i,e,rfl⟩:=dJ b;rw[Ah];exact(Ij (h.l _<|aB _)<|B i).2.2.1
def Ki(h:ny L)(B:R->eD):∀c∈Ef B L,(∀x∈c,x.Good)/\y c<=100:=λc a=>by
 obtain⟨i,b,rfl⟩:=dJ a;rw[Ah];have:=Ij (h.l _<|aB<|by rwa[Ag]at b)<|B i;exact⟨this.2.1,this.2.2.2⟩
end
def yi:∀(a:iF)(p:R),jM (dK p a)=y (gD a)
 |[],_=>by simp[jM,dK,gD]
 |c::a,p=>by
  have h:=yi a<|p+(y (iG c)+4);unfold jM at*;rw[dK,bO,fq,h,qS,ai,iA];rfl
def Km:∀(a:iF)(p:R),nC (dK p a)=y a.flatten
 |[],_=>by simp[nC,dK]
 |c::a,p=>by
  have h:=Km a<|p+(y (iG c)+4);unfold nC at*;rw[dK,bO,fq,h,di,ai];rfl
def Qg(n:R):∀(a:iF)(p:R),(dK p a).take n=dK p (a.take n):=by
 induction n with
 |zero=>intro a p;simp[dK]
 |succ n b=>
  intro a p;cases a with
  |nil=>simp[dK]
  |cons c a=>rw[dK,uh,b,uh,dK]
def sq.jV(h:sq i O)(l:i≠[])(k:∀x∈i,x.Good)(v:gF i)(w:y i<=100):ny (dK 0 O):=by
 have a:=h.ua l k v;have r:=h.xM;have d:∀a∈O,∀x∈a,x∈i:=λa c x b=>by rw[<-h.p];grind[mem_flatten]
 refine⟨?_,?_,?_,?_,?_,?_⟩;rw[a.dL];exact a.ne;rw[a.dL];omega;intro A u;obtain⟨m,q,rfl⟩:=dJ u;have c:m<y O:=a.dL▸q;have o:=a.l m q c;have b:=aB c;have t:=h.f _ b;have j:=k _<|d _ b _<|aB o.ne;have p:=k _ (d _ b _<|aB<|show y O[m]-1<y O[m]by omega);have g:gF O[m]:=a.o.kD<|eC b;(have s:y O[m]<=y i:=by rw[<-h.p];exact(eC b).length_le);refine⟨o.D▸t.2,o.A▸o.ne,by rw[o.A];omega,o.eJ▸j.L,o.eJ▸j.f,o.eP▸p.L,o.eP▸p.f,?_⟩;rw[o.eJ,o.eP];exact g.FJ o.ne<|aB _;rwa[Km,h.p];intro n f;have c:n<y O:=a.dL▸f;rw[Qg,yi,a.p n f]
 .intro n f;have c:n<y O:=a.dL▸f;have o:=a.l n f c;have j:=k _<|d _ (aB c) _<|aB o.ne;cases n with
  |zero=>
   rw[List.take_zero];show kG ⟨#[]⟩ _=cz;rw[o.eJ];cases e:kG ⟨#[]⟩ (O[0][0]'o.ne).D with
   |true=>rfl
   |false=>
    have b:=ou e<|LO _;have:=j.L;rw[<-b]at this;exact absurd this cg
  |succ n=>
   have g:n<y (dK 0 O):=U;have b:n<y O:=U;rw[aG g,BO];have m:=a.l n g b;rw[m.eP,o.eJ];exact(cW.1 a.L n (n+1) b c U) _ (aB _) _<|aB _
def Aa(a:iF):eD:=gD a++iD (dK 0 a)
def tK(u:R)(a:iF):cy tY:=[.cr<|jf u,.ap (jf u)<|Aa a,.sy<|jf u]
def TwP(w f:Z)(g e u x h d a:R)(K:DK)(b:iF)(j:Ending):Prop:=∃v c,j=aN v/\cJ f e c/\I (λk=>K.j e k\/k=g\/k=x) w f/\(∀k,c.j e k->K.j e k\/G (H w)<=k)/\Fx K.fx c.fx/\((v=ib/\mr (tK u b) K c/\mQ f g (aJ e) u (y<|gD b) (y<|iD<|dK 0 b) (pt<|iD<|dK 0 b) h d a aF (dK 0 b))\/∃l q i,l<+:tK u b/\mr l K c/\v=eW q/\rC f q i/\Xo K.fx i)
def X6(h:fD a b c k d n Q):∀e,cN d=M e->e<G (H a):=λe f=>(aS h e f).2
def PU{α β:Type}(K:α->β->Prop){b:α}{c:β}{a:Prop}(h:K b c->a)(k:K b c):a:=h k
def D5{l m n o p k q a' b' c' d' e' g':ae}{t:TypeId}{c:R×R}(h:a.heap[b]?=M (aK #[l,m,n,o,p,k,q] t c)):(cP (cP (cP (cP (cP (cP a (X b 0) a') (X b 1) b') (X b 2) c') (X b 3) d') (X b 4) e') (X b 6) g').heap[b]?=M (aK #[a',b',c',d',e',k,g'] t c):=by
 have d:=aY (i:=0) (u:=a') h;have e:=aY (i:=1) (u:=b') d;have f:=aY (i:=2) (u:=c') e;have g:=aY (i:=3) (u:=d') f;have j:=aY (i:=4) (u:=e') g;rw[(aY (i:=6) (u:=g') j)];simp
def KF{q i g l D L:R}{K B N m0:Y}(o:mQ a b (ee dE) K B N m0 q i g d (dK 0 O))(p:I (λm=>m=n) a e)(h:pR e P c f x)(hv:mr (tK k O) f x)(s:P.heap[b]?=M (aK #[ee dE,bw K,eI B,eI N,eI m0,bX q i (y<|dK 0 O) g,bX n 0 D l] 323 (0,0)))(aa:¬f.j c b)(t:¬f.j c q)(u:q≠b)(v:q≠n)(S:y (gD O)=D)(V:y (iD<|dK 0 O)=L)(F:b<G (H a)):TwP a (cP (cP (cP (cP (cP (cP P (X b 0)<|aJ c) (X b 1)<|bw k) (X b 2)<|eI D) (X b 3)<|eI L) (X b 4)<|eI<|pt<|iD<|dK 0 O) (X b 6) aF).drew b c k n q i g f O (aN ib):=by
 have r:=p.D;have C:=D5 (a':=aJ c) (b':=bw k) (c':=eI D) (d':=eI L) (e':=eI<|pt<|iD<|dK 0 O) (g':=aF) s;have A:I (λm=>m=b) P (cP (cP (cP (cP (cP (cP P (X b 0)<|aJ c) (X b 1)<|bw k) (X b 2)<|eI D) (X b 3)<|eI L) (X b 4)<|eI<|pt<|iD<|dK 0 O) (X b 6) aF):=((((((iP b P).aL b 1 _<|J z).aL b 2 _<|J z).aL b 3 _<|J z).aL b 4 _<|J z).aL b 6 _<|J z);generalize(cP (cP (cP (cP (cP (cP P (X b 0)<|aJ c) (X b 1)<|bw k) (X b 2)<|eI D) (X b 3)<|eI L) (X b 4)<|eI<|pt<|iD<|dK 0 O) (X b 6) aF)=wf at*;have j:I (λm=>m=b) P wf.drew:=A.df z;have w:∀m,x.j c m->f.j c m\/G (H a)<=m:=λm E=>(h.j m E).elim J aI;refine⟨_,x,z,h.ok.aA j<|λm E ad=>?_,?_,w,h.fx,J ⟨z,hv,?_,?_,o.ne,o.le,o.f⟩⟩;grind
 exact((p.aT (T:=λm=>f.j c m\/m=b\/m=n) ar).aj h.aA aI).aj j ar;rwa[S,V];intro ab ac W;have Q:=p.u (o.bU ab ac W) v o.lt.2;exact j.u (h.aA.u Q t<|au o.lt.2 r) u<|au o.lt.2<|aR r h.aA.D
def KG(bi:R)(hu:bi<18446744073709551616){n0 c0 s0 m0:Y}{s l n6:R}(x d:R)(g:iF)(h:mQ a b (ee dE) n0 c0 s0 m0 k s l (bX x 0 (y<|gD g) d) (dK 0 g))(hd:fy a n6 (bX x 0 (y<|gD g) d) (gD g))(hb:n6<=G (H a))(hP:ny (dK 0 g))(bT:ki (gD g))(hT:Steps a)(ab:Pow a)(ek:y (gD g)<=100000)(ap:cJ a c f)(hn:y f.l<=1000000000000)(B:qp f.fx)(en:¬f.j c x)(bb:¬f.j c b)(dk:¬f.j c k)(dn:k≠b)(dr:k≠x):cR bN 201 #[aJ b,aJ c,bw bi] a λbn w'=>TwP a w' b c bi x k s l f g bn:=by
 have t:∀bf∈dK 0 g,bf.Fits:=λbf hk=>(hP.l bf hk).A;have ed:=hP.dL;have cd:=Ln (dK 0 g) k s l a h.lt.2 h.bU U t;have el:y (iD<|dK 0 g)<=52004:=by have h1:=BU t;unfold iD;rw[ai,dh];omega
 have bL:0<y (iD<|dK 0 g):=by unfold iD;rw[ai,dh];omega
 have aa:ki (iD<|dK 0 g):=(ki.le 4 _).jN<|L6 t;have j:=h.g;have t0:=aX j 0;have t5:=aX j 5;have t6:=aX j 6;let⟨i0,ds,ea,eb,ec⟩:=cZ pL;let⟨D,Q⟩:∃D,y (gD g)=D:=⟨_,rfl⟩;let⟨an,hL⟩:∃an,y (iD<|dK 0 g)=an:=⟨_,rfl⟩;have e1:=vq (n:=(D:R)) U U;have e2:=vq (n:=(an:R)) U U;have bm:=ak (show∀v1 r,fy r (G<|H a) v1 (iD<|dK 0 g)->I aC a r->∃E xc,v1=bX E 0 an xc/\G (H a)<=E/\E<G (H r)/\bA r (X b 6)=M (bX x 0 D d)/\b<G (H r)/\(∀dT,I aC r dT->cR bN 186 #[bX E 0 an xc] dT λbn w'=>bn=aN (eI<|pt<|iD<|dK 0 g)/\w'=dT)from by intro v1 r ho ht;obtain⟨E,xc,rfl,a1,a2,_⟩:=vu ho bL;rw[<-hL,<-Q];refine⟨E,xc,z,a1,a2,ht.u t6 id<|az j,aI,λdT hW=>?_⟩;have dv:=ht.t hW;exact sV _ (iD<|dK 0 g) dT (hT.dD (dv.dD (aq _) cY) hT.lt) (fy.bB<|hW.aZ ho<|λ_ _ bh=>bh) U);have cm:=ak h;clear h;rw[Q]at t6;go_in
 go_wp21;go_call cd as bn r⟨v1,rfl,aU,ba⟩;obtain⟨E,xc,rfl,y0,y1,y2,y3,C⟩:=bm v1 r aU ba;have bl:=ak aU;have al:=ak ba;have m:=az j;have ad:¬b=x:=λbn=>by let⟨_,hc⟩:=fZ hd (k:=x) rfl;grind
 clear aU ba t0 t5 cd;go_wp21;rename_i QQ KK w;apply PU KK
 .intro bg;go_region_held3(λj4=>bA j4 (X b 6)=M (bX x 0 D d)) (first|assumption|go_keep) (first
   |(go_at_call 186;refine(C r.drew<|cf _ _).mono ?_;rintro bn w2⟨rfl,dT⟩;subst w2;have dv:bA r.drew (X b 6)=M (bX x 0 D d):=y2)
   |(go_at_call 186;refine(C (dw r (.cells #[.int .u64 0,.int .u32 0,.int .u32 0,.int .u32 0] 234)).drew ((cI _ r).df z)).mono ?_;rintro bn w2⟨rfl,dT⟩;subst w2;have dv:bA (dw r (.cells #[.int .u64 0,.int .u32 0,.int .u32 0,.int .u32 0] 234)).drew (X b 6)=M (bX x 0 D d):=(by rw[cL,gP y3];exact y2)))
  all_goals exact bg
 apply w;clear w C;have L:∃F,(dw r<|aK #[bw bi,eI D,eI an,eI<|pt<|iD<|dK 0 g] 234).drew=F/\I aC a F/\F.heap[G<|H r]?=M (aK #[bw bi,eI D,eI an,eI<|pt<|iD<|dK 0 g] 234 (0,0))/\fy F (G<|H a) (bX E 0 an xc) (iD<|dK 0 g):=⟨_,z,(al.aE _).df z,aQ _ z,bl.aE _⟩;let⟨F,L,u,av,cb⟩:=L;rw[L];have em:G (H a)<=G (H r):=al.D;generalize G (H r)=v at*;clear L bl al bm y2 y3;have eg:=u.D;have dd:=hT.dD (u.dD (aq _) cY) hT.lt;have hS:bA F.drew (X b 6)=M (bX x 0 D d):=by rw[cL];exact u.u t6 id m
 go_wp21;rename_i QQ KK w;refine cX (λj4=>bA j4 (X b 6)=M (bX x 0 D d)) 10 aH ?_;refine dH 0 ?_;iterate 2 (refine fW hS ?_;simp only[ig,eh,jZ])
 apply eS;refine dH 3 ?_;iterate 5 (refine fW hS ?_;simp only[ig,eh,jZ])
 apply eS;refine aW 2 ?_;intro K2 bo;go_simp;have:=X6 hd x z;have ac:Pow F.drew:=ab.aA (u.df z) id;go_call Dx bi hu ac as bn W3⟨rfl,A⟩;have O:I aC a W3:=(u.df (c:=F.drew) z).t<|I.p (S:=aC) A;have dx:=A.size;have:G (H F)<=G (H W3):=dx;have bt:bA W3 (X b 6)=M (bX x 0 D d):=O.u t6 id m;have ax:W3.heap[v]?=M (aK #[bw bi,eI D,eI an,eI<|pt<|iD<|dK 0 g] 234 (0,0)):=(A.block v<|az av).trans av;have cc:fy W3 (G<|H a) (bX E 0 an xc) (iD<|dK 0 g):=(I.p (S:=aC) A).aZ cb<|λ_ _ bh=>bh;have bx:fy W3 n6 (bX x 0 D d) (gD g):=Q▸O.aZ hd (λ_ _ bh=>bh);refine bo _ _ (λ_=>bt) ?_;refine aW 8 ?_;intro K8 bp;simp only[dl,cF,cO];refine lN (.tmp 34) (.tmp 35) 31 z n6 5 i0 (sA 0) 1 1 underlying31 ds ea eb ec z cg (bX x 0 D d) D ((gD g).map<|Value.int .u8) z (by have h0:=bx;unfold fy at h0;rwa[Q]at h0) (X E 0) an xc ((iD<|dK 0 g).map<|Value.int .u8) z (by rw[cS,hL,tF]) (vO cc.bB) (by intro bi hu;simp only[cC]at hu;obtain⟨g9,_,rfl⟩:=hu;rfl) U U U ?_;intro v4 w4 aV bd;have bE:fy w4 n6 v4 (Aa g):=fy.of aV (by unfold Aa;rw[ai,Q,hL]) (by unfold Aa;rw[bz]);have bc:=I.fU bd;obtain⟨yb,yc,rfl,g1,g2,g3⟩:=vu aV U;have p:I (λbf=>bf=x) a w4:=(O.aT (T:=λbf=>bf=x) cY).aj bc (λbf hk=>by simp[cN]at hk;grind);have ao:bA w4 (X b 6)=M (bX x 0 D d):=p.u t6 ad m;have aD:w4.heap[v]?=M (aK #[bw bi,eI D,eI an,eI<|pt<|iD<|dK 0 g] 234 (0,0)):=(bc.A v (az ax) (λbn=>by simp[cN]at bn;omega)).trans ax;have W:cJ w4 c f:=ap.aA p aI;have K:D+an=y (Aa g):=by unfold Aa;rw[ai,Q,hL]
 have ce:¬f.j c yb:=by intro bh;obtain dv|⟨g9,dv,hy⟩:=bd.f;simp[cN]at dv;grind;simp[cN]at dv;subst dv;have:=ap.lt _ bh;omega
 have P:=Nc (db:=c) (K:=f) (jf bi) yb 0 yc (bs:=(Aa g)) (w:=w4) W hn B (by rw[<-K];omega) (bT.jN aa) (Bytes.bU<|K▸bE.bB) g2 ce<|zM hu;rw[<-K]at P;clear K ce aV bd g1 g2 g3 bx cc ax bt A;refine bp _ _ (λ_=>ao) ?_;simp only[ig,eh];refine aW 9 ?_;intro K9 bq;go_simp;go_call P as bn w5⟨v5,K5,rfl,N⟩;have o:=N.D;have bv:bA w5 (X b 6)=M (bX x 0 D d):=o.aA.u ao bb<|au m p.D;refine bq _ _ (λ_=>bv) ?_;refine aW 10 ?_;intro ei V;go_simp;refine V _ _ wW ?_;refine dG aH ?_ _;show KK _ _;apply w;clear w bo bp bq V;obtain⟨rfl,o5⟩|⟨eo,q,bh,r1,r2,rfl,r3,r4⟩:=N.d;rotate_left;(.have HR:=ak<|show TwP a w5 b c bi x k s l f g (aN<|eW q)from⟨_,K5,z,o.ok,(p.aT (T:=λbf=>f.j c bf\/bf=b\/bf=x) ar).aj o.aA aI,λbf hk=>(o.j bf hk).elim J<|λbh=>bj<|aR p.D bh,o.fx,bj ⟨eo,q,bh,r1,r2,z,r3,r4⟩⟩;clear N o r1 r2 r3 r4 P;go_wp2;go_ret;exact HR);have e:w5.heap[b]?=M (aK #[ee dE,bw n0,eI c0,eI s0,eI m0,bX k s (y<|dK 0 g) l,bX x 0 D d] 323 (0,0)):=by rw[<-Q];exact(o.aA.A b (au m p.D) bb).trans<|(p.A b m ad).trans j
 have ca:w5.heap[v]?=M (aK #[bw bi,eI D,eI an,eI<|pt<|iD<|dK 0 g] 234 (0,0)):=(o.aA.A v (az aD)<|λbh=>bP<|ap.lt _ bh).trans aD;have hQ:(bA w5.drew (X v 0)=M (bw bi)/\bA w5.drew (X v 1)=M (eI D)/\bA w5.drew (X v 2)=M (eI an)/\bA w5.drew (X v 3)=M (eI<|pt<|iD<|dK 0 g)):=by simp only[cL];refine⟨?_,?_,?_,?_⟩<;>(rw[cE ca];rfl)
 clear N j hd hS ao bv t6 hn B hT ab ac dd u O av cb P W bT aa hP;let⟨ch,cj,ck,cl⟩:=hQ;simp only[cL]at ch cj ck cl;have co:=aX e 0;have cp:=aX e 1;have cr:=aX e 2;have cs:=aX e 3;have cu:=aX e 4;have cv:=aX e 6;have cx:=cV (i:=0) e;have cB:=cV (i:=1) e;have cM:=cV (i:=2) e;have cT:=cV (i:=3) e;have db:=cV (i:=4) e;have dc:=cV (i:=6) e;have:v≠b:=U;have:b≠v:=U;go_wp21;rename_i ej cn br;apply PU cn;(.intro bg;(go_region);all_goals exact bg);refine br _ _ ?_;have bk:=ak<|KF cm p o o5 e bb dk dn dr Q hL m;clear co cp cr cs cu cv cx cB cM cT db dc ch cj ck cl e ca o o5 p aD bE bc;go_wp2;go_ret;exact bk
def tT(s:af)(w:Z):cR bN 73 #[aw s] w λe a=>e=aN (eW<|G<|H w)/\a=dw w (aK #[aw s,ay 7] 157):=by
 go_in
 go_wp2;go_ret;simp_all
def tB.lX(w:Z)(h:Nm B):tB (dw w<|aK #[aw B,ay 7] 157) (G<|H w):=⟨7,⟨B,aQ _ rfl,h⟩,cg⟩
def C4(V:ju)(c b:R)(w:Z):Prop:=∀W,kZ V c aC w W->cR bN 128 #[aJ b] W λe a=>∃s,e=aN (aw s)/\Nm s/\gC (G<|H W) W a
def Q4(V:ju)(e d:R)(c:la)(B:R->eD)(w:Z):Prop:=∀i(g:i<y c)W,kZ V e aC w W->V.D W->cR bN 346 #[aJ d,c[i].t] W λf a=>
 (∃b,f=aN (de #[b,ib])/\Bytes a b (B i)/\ki (B i)/\y (B i)<=1000000/\(∀k,cN b=M k->k<G (H a))/\V.D a/\I V.F W a)\/Es V W a V.F f (λv=>de #[aF,v])
def nX.p(bp:R->eD)(P:∃dv o ac A aV D g k ad,mQ a c dv o ac A aV D g k ad L/\(c<b/\¬s.F c)/\(D<b/\¬s.F D))(hp:vP L O)(B:∀V∈L,V.Can)(hu:∀t(F:t<y L)(hc:t<y O)bo,Je (bp t) L[t] bo->bo=O[t])(hX:s.Xp)(bk:b<=G (H a))(hF:∀V,s.F V->V<b)(K:Q4 s b c L bp a)(Q:C4 s b c a)(n:Steps a)(m:1<b/\¬s.F 1):nX s b c L O a:=by
 refine⟨P,hp.dL,hp.l,hp.S,hp.o,hp.L,hp.f,λt F hc W p bf=>?_⟩;let⟨dv,o,ac,A,aV,D,g,k,ad,an,bm,bh⟩:=P;have N:=an.bM p bm bh;have hn:b<=G (H W):=aR bk p.1;have bq:=aX N.g 5;have g0:bA W (X D<|g+t*5)=M (ay L[t].p):=N.bU _ _<|jt L t 0 F cg;have g1:bA W (X D<|g+t*5+1)=M (ay L[t].D):=by rw[bJ];exact N.bU _ _<|jt L t 1 F cg
 have g2:bA W (X D<|g+t*5+2)=M (ay L[t].A):=by rw[bJ];exact N.bU _ _<|jt L t 2 F cg
 have g3:bA W (X D<|g+t*5+3)=M (aw L[t].eJ):=by rw[bJ];exact N.bU _ _<|jt L t 3 F cg
 have g4:bA W (X D<|g+t*5+4)=M (aw L[t].eP):=by rw[bJ];exact N.bU _ _<|jt L t 4 F cg
 have:(t:Y)<(y L:Y):=U;have:(0:Y)<=(t:Y):=U;have v:=λW'(h:kZ s b aC W W')=>K t F W'<|p.aj h;have r:=λW'(h:kZ s b aC W W')=>Q W'<|p.aj h;have w:=n.bM p m;have l:=B _<|aB F;have aU:=hu t F hc;have:∀(x:eN)(a:Z),(Op.unary .not<|aO x).run bN a=.ok (aO<|!x) a:=λ_ _=>rfl;have ao:∀V,b<=V->¬s.F V:=λV B a=>bP<|hF V a;let⟨pos,f,d,first,e,bi⟩:∃pos f d first e,L[t]=⟨pos,f,d,first,e⟩:=⟨_,_,_,_,_,rfl⟩
 rw[bi]at g0 g1 g2 g3 g4 v l aU;simp only at g0 g1 g2 g3 g4;unfold pS.t at v;simp only at v;have u:I aC W (dw W<|aK #[ay pos,ay f,ay d,aw first,aw e] 383):=(cI _ _);have al:=v _ (u.bM hn cY cY)<|s.l bf u cY;have:=(N.lt).2;generalize bp t=BS at*;have bb:=ak (show∀j,I s.F (dw W<|aK #[ay pos,ay f,ay d,aw first,aw e] 383) j->Steps j fromλj ht=>(w.bM (S:=aC) (u.bM (V:=s) hn cY cY) m).bM (S:=aC) (ht.bM (V:=s) dW cY<|λV B _=>B) m);have bc:=ak (show∀j v',I s.F (dw W<|aK #[ay pos,ay f,ay d,aw first,aw e] 383) j->Bytes j v' BS->ki BS->y BS<=1000000->(∀V,cN v'=M V->V<G (H j))->cR bN 347 #[v',ef #[ay pos,ay f,ay d,aw first,aw e]] j λbn g=>TbP j g ⟨pos,f,d,first,e⟩ BS bn fromλj v' ht h1 h2 a b=>IC ⟨pos,f,d,first,e⟩ (bb j ht) h1 h2 a ⟨l.c1,bP l.c2⟩ b);have HN:=ak r;have ba:=ak<|λW'(h:I s.F W W')=>h.bM (V:=s) (n0:=b) (S:=aC) hn cY<|λV B _=>B;clear N an v K Q r w n m hF l hu p;go_in
 go_wp21;go_call al as bn j(⟨v2,rfl,hB,hI,hL,hO,E,i⟩|⟨_,q,rfl,hq,E,i⟩);rotate_left;(.have C:=ak<|(u.aT (T:=s.F) cY).aj i<|λV B=>J B;have x:Cf j (G<|H W) ⟨pos,f,d,first,e⟩:=Cf.aA (aQ _ z) i<|ao _ hn;let⟨k0,k1,k2,k3,k4⟩:=x.bU;simp only at k0 k1 k2 k3 k4;clear i x;go_wp2;(go_ret2);exact bj ⟨hX,q,z,hq,E,C⟩);have x:Cf j (G<|H W) ⟨pos,f,d,first,e⟩:=Cf.aA (aQ _ z) i<|ao _ hn;let⟨k0,k1,k2,k3,k4⟩:=x.bU;simp only at k0 k1 k2 k3 k4;have hz:=i.D;simp at hz;have C:=ak<|(u.aT (T:=s.F) cY).aj i<|λV B=>J B;have aD:=bc j v2 i hB hI hL hO;clear hB hI hL hO i x al;go_wp21;go_call aD as bn w3⟨v',ok,rfl,aa,ap⟩;have av:I s.F W w3:=C.t<|I.p (S:=aC) aa;have r:=HN w3<|ba w3 av;clear aD;cases ok;(.go_wp21;go_call r as bn w4⟨bs,rfl,bl,bg⟩;clear r;go_wp21;go_call tT bs w4 as bn w5⟨rfl,rfl⟩;go_wp2;(go_ret2);have ax:I aC j w4:=(I.p (S:=aC) aa).t<|I.p (S:=aC) bg;exact bj ⟨hX,_,z,tB.lX w4 bl,s.l E (ax.aE _) cY,(C.t ax).aE _⟩);let⟨bo,d1,d2,d3,d4,d5⟩:=ap rfl;obtain rfl:=aU bo ⟨d1,d2,d3,d4⟩;clear ap d1 d2 d3 d4 r;go_wp2;go_ret2
 refine J ⟨v',z,?_,s.l E (I.p (S:=aC) aa) cY,av⟩;obtain⟨h1,⟨h2,h0⟩|⟨br,cp,bd,h2,hb,ab⟩⟩:=d5;exact⟨h1,J ⟨h2,h0⟩⟩;exact⟨h1,bj ⟨br,cp,bd,h2,U,ab⟩⟩
def TX{f g:Y}{e:R}(l:k<18446744073709551616)(q:mQ a c d k r f g n T e w L)(m:c<b/\¬s.F c)(o:n<b/\¬s.F n)(i:Pow a)(h:2<b/\¬s.F 2):C4 s b c a:=λW j=>
 (zA c d k l r f g n T e w L (q.bM j m o)<|i.dU<|j.2 _<|J h).mono (by
  rintro u t⟨rfl,p⟩;exact⟨_,z,zM l,p⟩)
def nX.Y1(V:ju)(l w:R)(A p aa:Y)(x q g m c a:R)(k:la)(b:iF)(ab:Z)(K:mQ ab w (ee dE) (0:R) A p aa x q g (bX m c (y<|gD b) a) k)(h:Tp k b)(o:∀W∈k,W.Can)(hb:Bytes ab (bX m c (y<|gD b) a) (gD b))(F:y (gD b)<=a)(Q:y (gD b)<=1000000000000)(B:w<l/\¬V.F w)(C:x<l/\¬V.F x)(h3:m<l/\¬V.F m)(T:Steps ab)(P:1<l/\¬V.F 1)(N:Pow ab)(L:2<l/\¬V.F 2)(hX:V.Xp)(u:l<=G (H ab))(hF:∀W,V.F W->W<l):nX V l w k b ab:=by
 refine nX.p (λj=>ij<|iG<|b[j]?.getD []) ⟨_,_,_,_,_,_,_,_,_,K,B,C⟩ h.zx o ?_ hX u hF ?_ (TX cg K B C N L) T P;intro j t f d v;(have ac:b[j]?.getD []=b[j]:=by rw[bF f];rfl);simp only[ac]at v;exact v.Xy ⟨z,h.l j t f,h.S _<|aB f,h.o.kD<|eC<|aB f⟩;intro j t al O hD;have f:j<y b:=h.dL▸t;(have ac:b[j]?.getD []=b[j]:=by rw[bF f];rfl);simp only[ac];have ad:=h.l j t f;have e:=h.p j t;have E:=Ui b j f;have s:=h.S _<|aB f;have:=PP s;have:=h.f _<|aB f;refine(WT m c (y<|gD b) a k[j] (K.bM O B C) (e▸ad.D▸E) F (by rw[ad.D];omega) Q).mono ?_;rintro ac W'⟨rfl,d⟩;have D:Bytes al (bX m c (y<|gD b) a) (gD b):=hb.bM O (λW o=>by cases o;exact h3);have i:m<G (H al):=au h3.1<|aR u O.1;refine J ⟨_,z,?_,?_,by rw[iA];omega,λW o=>by cases o;exact au i d.size,V.l hD (I.p (S:=aC) d) cY,I.p d⟩;have v:=D.Ec (n:=k[j].p) (by rw[e];omega);have ht:=Bytes.ot (bs:=(gD b).drop k[j].p) (n:=k[j].D) (dV v) (by simp;rw[e,ad.D];omega);have r:=Ta b [] j f;rw[eu,<-e,<-ad.D]at r;rw[r]at ht;exact ht.dD d (λW o=>by cases o;exact i);unfold ij;exact(Pp s).jN<|ki.le 4 _
def JW(K:DK)(u:R)(a:la)(i:R):eD:=match ii K.ah (jf u),a[i]? with
 |some f,M k=>(f.bB.drop k.p).take k.D
 |_,_=>[]
def KI(h:ny L)(B:R->eD):vP L (Ef B L):=⟨(Ag B L).symm,by rw[Ag];exact h.ne,λi b a=>by rw[Ah];exact(Ij (h.l _<|aB b)<|B i).1,λc a=>(Ki h B c a).1,o9 h B,PV h B,λc a=>bP<|(Ki h B c a).2⟩
def nX.TV(C:Prop)(p:R)(f:DK)(F:fB)(d l W:R)(T:W<18446744073709551616)(n c D:Y)(m g b:R)(o:ae)(a:la)(aa:Z)(w:mQ aa l (aJ p) W n c D m g b o a)(k:ny a)(O:C)(x:d<=G (H aa))(hF:∀ab,F ab->ab<d)(r:l<d/\¬F l)(s:m<d/\¬F m)(B:Steps aa)(A:1<d/\¬F 1)(i:Pow aa)(h:2<d/\¬F 2):nX (Ml C p f F) d l a (Ef (JW f W a) a) aa:=by
 refine nX.p (JW f W a) ⟨_,_,_,_,_,_,_,_,_,w,r,s⟩ (KI k _) k.l ?_ O x hF ?_ (TX T w r s i h) B A;intro V j t ac e;rw[Ah,Mw e];rintro V j al Q⟨v,an,N,K,e3,e4⟩;refine(WU T a[V] (w.bM Q r s) N (bP<|(k.l _<|aB j).D)<|i.dU<|Q.2 _<|J h).mono ?_;rintro ao E⟨K',e,f1,f3,hr⟩;have L:(Ml C p f F).D E:=⟨λab a=>au (v ab a) e.aA.D,K',e.ok,K.aj f1,aI,e4.aj e.fx⟩;have S:I F al E:=e.aA.aT aI;obtain⟨v',ad,P,rfl,hb,hv⟩|⟨q,ac,rfl,hq⟩:=hr;(have t:JW f W a V=(ad.bB.drop a[V].p).take a[V].D:=by unfold JW;rw[<-K.1,P,bF j]);have u:=(N.ah ad (eM P).2.1).2.2.1;rw[t];exact J ⟨v',z,hb,(u.pM _).ot _,by have:=(k.l _<|aB j).D;simp;omega,hv,L,S⟩;exact bj ⟨O,q,z,⟨ac,hq⟩,L,S⟩
def zeq(w f:Z)(c u:R)(K:DK)(D L h:Y)(i:Ending):Prop:=∃d,pR w f c K d/\wR K d/\(∀k,d.j c k->K.j c k)/\((∃e g a b,i=aN (de #[aJ e,ib])/\mQ f e (aJ c) u D L h g 0 a aF b/\ny b/\G (H w)<=e/\G (H w)<=g/\((jM b:Y)=D/\(y (iD b):Y)=L/\pt (iD b)=h)/\∃F,ii K.ah (jf u)=M F/\(F.bB.drop<|jM b).take (y<|iD b)=iD b)\/(∃q,i=aN (de #[ee dE,eW q])/\tB f q))
def No(N:R)(hu:N<18446744073709551616)(D L:R)(O:Y)(hD:D<4294967296)(hL:L<4294967296)(hT:Steps a)(an:Pow a)(av:¬f.j b 1)(r:cJ a b f):cR bN 117 #[aJ b,GZ N D L O] a λT v=>zeq a v b N f D L O T:=by
 have:IntKind.i64.wrap (D:Y)=D:=by rw[bR];omega
 have:IntKind.i64.wrap (L:Y)=L:=by rw[bR];omega
 have aV:=ak (show∀Q,I aC a Q->cR bN 121 #[aJ b,aw<|jf N,ay D,ay L] Q λT v=>∃w,pR a v b f w/\wR f w/\(∀bh,w.j b bh->f.j b bh)/\I (f.j b) Q v/\((∃x i,T=aN (de #[x,ib])/\fy v (G<|H Q) x i/\ki i/\y i<=100000000000000/\∃aU,ii f.ah (jf N)=M aU/\(aU.bB.drop D).take L=i)\/(∃q,T=aN (de #[aF,eW q])/\tB v q))from by
  intro Q t;have aa:=r.aA t<|λ_ _=>id;go_call GC (jf N) D L aa U (zM hu)as T v⟨w,p,h1,h3,hr⟩;refine⟨w,((pR.bI r).bH t).aj p,h1,h3,p.aA,?_⟩;obtain⟨x,aU,hF,rfl,ho⟩|⟨q,O,rfl,hq⟩:=hr
  .have hf:=r.ah aU (eM hF).2.1;exact J ⟨x,_,z,ho,(hf.2.2.1.pM _).ot _,by have:=hf.2.2.2.2.2;simp;omega,aU,hF,z⟩
  .exact bj ⟨q,z,O,hq⟩)
 have ba:=ak (show∀A x n6 i(w:DK),pR a A b f w->fy A n6 x i->ki i->y i<=100000000000000->cR bN 182 #[x,ef #[bw N,eI D,eI L,eI O]] A λT v=>zar A v i D L O T from by intro A x n6 i w p ho hi hl;have Q:Steps A:=λbh c=>p.aA.u (hT bh c) av hT.lt;exact IB N D L O Q (fy.bB ho) hi hl (λbh c=>(fy.lt ho bh c).2) ⟨U,U⟩ ⟨U,U⟩);have:∀(x:eN)(a:Z),(Op.unary .not<|aO x).run bN a=.ok (aO<|!x) a:=λ_ _=>rfl;unfold GZ;clear hT av;go_in
 go_wp21;go_call Dx N hu (an.aA (cI aC a) id)as T w2⟨rfl,E⟩;have k:w2.heap[G<|H a]?=M (aK #[bw N,eI D,eI L,eI O] 234 (0,0)):=(E.block _ ar).trans<|aQ _ z;have t:I aC a w2:=(cI aC a).t<|I.p (S:=aC) E;have:=aX k 0;have:=aX k 1;have:=aX k 2;have ap:=aV w2 t;clear E;go_wp21;go_call ap as T A⟨K3,d,s,g,K,bg⟩;have bf:¬f.j b (G<|H a):=λO=>bP<|r.lt _ O;have e:=(K.A _ (az k) bf).trans k;have:=aX e 0;have:=aX e 1;have:=aX e 2;have:=aX e 3;obtain⟨v3,i,rfl,ad,ab,ac,W⟩|⟨q3,rfl,ao⟩:=bg;rotate_left;(.let⟨m,n,o,Q⟩:=jr d s g ao;clear d s g ao K e;go_wp2;(go_ret2);exact⟨K3,m,n,o,bj ⟨q3,z,Q⟩⟩);have ax:=ba A v3 _ i K3 d ad ab ac;let⟨P,m,n,o⟩:=jr e d s g;clear e d s g K ad ab ac ap;go_wp21;go_call ax as T w4⟨v4,ok,rfl,u,al⟩;have l:=(u.A _ (az P) id).trans P;have:=aX l 0;have:=aX l 1;have:=aX l 2;have:=aX l 3;clear l ax;cases ok;(.go_wp21;go_call tT (jf N) w4 as T Q⟨rfl,rfl⟩;go_wp2;(go_ret2);exact⟨K3,(ag m).bH<|u.aE _,n,o,bj ⟨_,z,tB.lX w4<|zM hu⟩⟩);let⟨j,hP,hS,V,B,C,F⟩:=al rfl;have bc:((jM j:Y)=D/\(y (iD j):Y)=L/\pt (iD j)=O)/\∃aU,ii f.ah (jf N)=M aU/\(aU.bB.drop<|jM j).take (y<|iD j)=iD j:=by let⟨aU,Q,q2⟩:=W;rw[V]at B C q2;refine⟨⟨hS,C,B⟩,aU,Q,?_⟩;rwa[show jM j=D by omega,show y (iD j)=L by omega]
 clear V B C W;have:=hP.ne;have:=hP.dL;obtain⟨bb,c,rfl,a1,a2,a3⟩:=vu F U;have bd:mQ (dw w4<|aK #[aJ b,bw N,eI D,eI L,eI O,bX bb 0 (y j) c,aF] 323) (G<|H w4) (aJ b) N D L O bb 0 c aF j:=by refine⟨aQ _ z,?_,U,a3,U⟩;intro bk bl hj;obtain⟨h1,⟨h2,h0⟩|⟨b',aa,Q,h2,_,bi⟩⟩:=dQ<|bC F<|aK #[aJ b,bw N,eI D,eI L,eI O,bX bb 0 (y j) c,aF] 323;omega;grind
 clear hS F al;go_wp2;go_ret2
 have d:=ag m;have aD:=d.aA.D;exact⟨K3,d.bH<|u.aE _,n,o,J ⟨G<|H w4,bb,c,j,z,bd,hP,aR aD u.D,aR aD a1,bc⟩⟩
structure cH where
 tb:R
 ks:la
 cs:iF
 cK:R
abbrev dI:=cy cH
def cH.D(t:cH):ae:=aJ t.tb
def cH.dq(t:cH):dB:=t.cs.flatten
def io(a:la):af:=(a.head?.map pS.eJ).getD ⟨#[]⟩
def CN(h:0<y L):iQ L=(L[y L-1]'U).eP:=by
 unfold iQ;rw[List.getLast?_eq_getElem?,bF U];rfl
def AR(h:0<y L):io L=(L[0]'h).eJ:=by
 unfold io;cases L with
 |nil=>simp at h
 |cons k r=>rfl
def Qw(w:Z)(t:cH):Prop:=∃i b e c g h d a f,mQ w t.tb i b e c g h d a f t.ks
def Qw.eJ{t:cH}(h:Qw a t):cR bN 184 #[t.D] a λn k=>n=aN (aw<|io t.ks)/\k=a:=by
 let⟨m,c,g,d,j,l,e,b,i,f⟩:=h;rw[AR f.ne];exact Wn f
def Qw.eP{t:cH}(h:Qw a t):cR bN 183 #[t.D] a λn k=>n=aN (aw<|iQ t.ks)/\∃q,k=a.drewN q:=by
 let⟨m,c,g,d,j,l,e,b,i,f⟩:=h;rw[CN f.ne];exact Ze f
def mQ.dU{w w':Z}{e a g:Y}{f:ae}(h:mQ w c d r e a g k n T f L)(i:w'.heap[c]?=w.heap[c]?)(j:w'.heap[k]?=w.heap[k]?):mQ w' c d r e a g k n T f L:=⟨i.trans h.g,λm u l=>(dZ (w:=w) j).trans<|h.bU m u l,h.ne,h.le,h.f⟩
def Qw.df{w w':Z}{t:cH}(h:Qw w t)(o:w'.heap=w.heap):Qw w' t:=by
 let⟨m,d,i,e,k,l,g,b,j,n⟩:=h;exact⟨m,d,i,e,k,l,g,b,j,n.dU (by rw[o])<|by rw[o]⟩
def Qw.dD{t:cH}(h:Qw a t)(m:gC (G<|H a) a e):Qw e t:=by
 let⟨o,c,g,d,k,n,f,b,i,j⟩:=h;exact⟨o,c,g,d,k,n,f,b,i,j.dU (m.block _ j.lt.1)<|m.block _ j.lt.2⟩
structure jX(w:Z)(v:ae)(ts:cy cH):Prop where
 bV:Row w 1 v (y ts) (ts.map cH.D)
 lt:∀k,cN v=M k->k<G (H w)
 bZ:∀t∈ts,Qw w t
 f:y ts<=20000000000
def jX.dD{f:cy cH}(h:jX a d f)(b:gC (G<|H a) a e):jX e d f:=by
 refine⟨(I.p (S:=aC) b).bV h.bV<|λk c=>⟨id,h.lt k c⟩,λk c=>au (h.lt k c) b.size,λt g=>(h.bZ t g).dD b,h.f⟩
def Dj(a:cy cH):Prop:=a.Pairwise<|λb c=>kG (iQ b.ks) (iQ c.ks)=cz
def OQ{k bk:R}{c:cy cH}(f:af)(h:jX a d c)(m:fE a k d 106)(l:fE a bk (aw f) 9)(i:R)(r:i<y c):cR bN 282 #[ay i,aJ k,aJ bk] a λo j=>o=aN (aO<|!kG (iQ c[i].ks) f)/\∃q,j=a.drewN q:=by
 obtain⟨g,⟨_,u⟩|⟨t,e,n,rfl,_,p⟩⟩:=h.bV;omega;have s:bA a (X t<|e+i)=M c[i].D:=by simp_all
 have b:∀W,W.heap=a.heap->cR bN 183 #[c[i].D] W λo j=>o=aN (aw<|iQ c[i].ks)/\∃q,j=W.drewN q:=λW e=>((h.bZ _<|aB r).df e).eP;have:=m.u;have:=l.u;have:=Ma;have:=h.f;have:(i:Y)<(y c:Y):=U;have:(0:Y)<=(i:Y):=U;unfold kG;unfold cH.D at s b;generalize iQ c[i].ks=w at*;generalize c[i].tb=v at*;clear h m l g p;go_in
 go_wp21;go_quiet(first|(go_at_call 183;refine Calls.quiet_of (b _ z)))
 go_wp2;go_ret;exact⟨z,nq,z⟩
variable{l v:dI}
def vP.t(h:vP L O):0<y L:=by rw[h.dL];exact h.ne
def vP.A(h:vP L O):∃x∈O.flatten,x.D=iQ L:=by
 have b:=h.t;have a:y L-1<y O:=bP h.dL;have o:=h.l (y L-1) U a;have:=o.ne;exact⟨_,dO.2 ⟨_,aB a,aB<|show y O[y L-1]-1<y O[y L-1]by omega⟩,by rw[CN b,o.eP]⟩
def vP.p(h:vP L O):∃x∈O.flatten,x.D=io L:=by
 have b:=h.t;have a:0<y O:=bP h.dL;have o:=h.l 0 U a;exact⟨_,dO.2 ⟨_,aB a,aB o.ne⟩,by rw[AR b,o.eJ]⟩
def vP.D(h:vP L O)(f:S∈O.flatten):kG (iQ L) S.D=bD:=by
 have e:=h.t;have b:y L-1<y O:=bP h.dL;have o:=h.l (y L-1) U b;let⟨j,c,a⟩:=dO.1 f;obtain⟨i,d,rfl⟩:=dJ c;rw[CN e,o.eP];obtain g|g:=iT i<|y L-1;exact sY<|cW.1 h.L i _ d b g S a _ ar;have:i=y L-1:=bP h.dL;subst this;exact gF.FJ (h.o.kD<|eC<|aB b) o.ne a
def vP.xS(h:vP L O)(g:S∈O.flatten):kG S.D (io L)=bD:=by
 have f:=h.t;have b:0<y O:=bP h.dL;have o:=h.l 0 U b;let⟨j,c,a⟩:=dO.1 g;obtain⟨i,e,rfl⟩:=dJ c;rw[AR f,o.eJ];obtain d|d:=fN i;subst d;exact gF.xS (h.o.kD<|eC<|aB b) o.ne a;exact sY<|cW.1 h.L 0 i b e d _ (aB o.ne) S a
def gy(a:dI):dB:=(a.map cH.dq).flatten
def uO(t:cH)(a:dI):gy (t::a)=t.dq++gy a:=by simp[gy]
def Fa(a b:dI):gy (a++b)=gy a++gy b:=by simp[gy]
def lY:S∈gy l↔∃t∈l,S∈t.dq:=by
 unfold gy;grind
structure lZ(ts:dI):Prop where
 p:∀t∈ts,vP t.ks t.cs
 o:gF (gy ts)
 L:(ts.map cH.dq).Pairwise lI
def lZ.D(h:lZ l)(e:b<y l)(f:c<y l)(d:b<c){a:E}(g:S∈l[b].dq)(i:a∈l[c].dq):kG S.D a.D=cz:=by
 exact cW.1 h.L b c (dV e) (dV f) d S (dV g) a<|dV i
def lZ.A(h:lZ l):Dj l:=by
 refine cW.2<|λj k b c a=>?_;let⟨x,f,d⟩:=(h.p _<|aB b).A;let⟨i,g,e⟩:=(h.p _<|aB c).A;rw[<-d,<-e];exact h.D b c a f g
def lZ.bZ(h:lZ l){t:cH}(a:t∈l):gF t.dq:=h.o.kD<|eC aI
structure so(ts:dI)(key:af)(k:R):Prop where
 le:k<=y ts
 da:∀i(hi:i<y ts),i<k->kG (iQ ts[i].ks) key=cz
 xQ:∀i(hi:i<y ts),k<=i->kG (iQ ts[i].ks) key=bD
def lZ.Ea(h:lZ l)(c:af)(k:so l c b):(((l.drop b).map cH.dq).map<|iX c).flatten=iX c (gy l):=by
 have e:gy l=gy (l.take b)++gy (l.drop b):=by rw[<-Fa,du]
 have f:iX c (gy<|l.take b)=[]:=by unfold iX;rw[oo];intro x n;let⟨t,m,d⟩:=lY.1 n;obtain⟨o,p,rfl⟩:=dJ m;rw[oX]at d;have a:o<b/\o<y l:=aI;have i:=k.da o a.2 a.1;have j:=(h.p _<|aB a.2).D d;rw[DW j i];simp
 have g:∀a:iF,(a.map<|iX c).flatten=iX c a.flatten:=by
  intro a;induction a with
  |nil=>rfl
  |cons i r d=>simp only[bO,di,d];unfold iX;rw[mA]
 rw[g,e];unfold iX at*;rw[mA,f,ep];rfl
def lZ.CT(h:lZ l)(g:so l B b)(x:E)(n:x∈gy l)(c:x.D=B):∃r:b<y l,x∈l[b].dq:=by
 let⟨t,i,d⟩:=lY.1 n;obtain⟨p,f,rfl⟩:=dJ i;have e:=(h.p _ i).D d;obtain j|j|j:=mT p b;have:=DW e<|g.da p f j;rw[c,jq]at this;cases this;grind
 have a:b<y l:=U;let⟨q,o,k⟩:=(h.p _<|aB a).A;have m:=g.xQ b a<|aq _;have:=h.D a f j o d;rw[k,c,m]at this;cases this
def lZ.AS(h:lZ l)(b:so l B (y l))(d:Y):kC d (gy l) B=dE:=by
 refine tv<|λx c a=>?_;let⟨e,_⟩:=h.CT b x c a;omega
def lZ.Eb(h:lZ l)(e:so l B b)(d:b<y l)(c:Y):kC c (gy l) B=kC c l[b].dq B:=by
 have:=CU (cs:=l.map cH.dq) (k:=B) (i:=b) (dV d) (λx f a=>by let⟨_,g⟩:=h.CT e x f a;grind) h.L c;unfold gy;grind
def BM(b:af)(h:jX a d l)(Q:Dj l):cR bN 255 #[d,aw b] a λK S=>∃k:R,K=aN (ay k)/\so l b k/\gC (G<|H a) a S:=by
 have o:gC (G<|H a) a (dw (dw a<|aK #[d] 106)<|aK #[aw b] 9):=((Below.refl _ a).alloc (aq _) _).alloc ar _;have O:=h.dD o;have:=h.f
 have r:=BC (f:=282) #[aJ<|G<|H a,aJ<|G (H a)+1] (y l) (λi=>if j:i<y l then !kG (iQ l[i].ks) b else cz) (dw (dw a<|aK #[d] 106)<|aK #[aw b] 9) (enters_of func282 aH z) U (by
  intro T L B p P;have n:T<y l:=U;simp only[p,n,Ax]at P|-;obtain V|V:=ol B
  .have:=cW.1 Q T L n p V;grind[my]
  grind)
  (by
   intro i j W g;have A:=O.dD g;have C:fE W (G (H a)) d 106:=(g.block _ dW).trans (fE.aE (aQ _ z) _);have D:fE W (G (H a)+1) (aw b) 9:=(g.block _ ar).trans (aQ _ ar);go_call OQ b A C D i j as K W'⟨rfl,q,rfl⟩;simp only[j,Ax];exact⟨trivial,below_drewN (Below.refl _ _) _⟩)
 have:=h.bV.2;have E:(d=aF/\y l=0)\/∃L c m,d=bX L c (y l) m:=by grind
 have s:∀(K:Ending)(F:Z)(k:R),k<=y l->(∀i,i<k->(if j:i<y l then !kG (iQ l[i].ks) b else cz)=bD)->(∀i,k<=i->i<y l->(if j:i<y l then !kG (iQ l[i].ks) b else cz)=cz)->so l b k:=by intro K F k e t w;refine⟨e,λi j g=>?_,λi j g=>?_⟩;(have:=t i g;grind);grind
 obtain⟨rfl,N⟩|⟨L,c,m,rfl⟩:=E;(.obtain rfl:l=[]:=bG N;(go_in);(go_wp2_with(go_at_call 247;refine r.mono ?_;rintro K F⟨k,rfl,e,t,w,x⟩;have u:=ak e;have v:=ak x));go_ret;have e:=ag u;refine⟨k,z,⟨e,ar,ar⟩,o.trans<|v.mono o.size⟩);(go_in);(go_wp2_with(go_at_call 247;refine r.mono ?_;rintro K F⟨k,rfl,e,t,w,x⟩;have u:=ak e;have g:=ak t;have n:=ak w;have v:=ak x));go_ret;exact⟨k,z,s (aN ib) a k u g n,o.trans<|v.mono o.size⟩
structure uD(V:ju)(n0:R)(v:ae)(ts:dI)(w:Z):Prop where
 bV:Row w 1 v (y ts) (ts.map cH.D)
 l:∀k,cN v=M k->k<n0/\¬V.F k
 bZ:∀t∈ts,nX V n0 t.tb t.ks t.cs w
 L:lZ ts
 f:y ts<=20000000000
def nX.XF{t:cH}(h:nX s b t.tb t.ks t.cs a):Qw a t:=by
 let⟨l,d,g,e,j,k,f,c,i,m,_⟩:=h.D;exact⟨l,d,g,e,j,k,f,c,i,m⟩
def uD.D(h:uD s c d l a)(f:c<=G (H a)):jX a d l:=⟨h.bV,λk e=>au (h.l k e).1 f,λt g=>(h.bZ t g).XF,h.f⟩
def Row.bM{V:ju}{n0:R}{S:fB}(h:Row a b d c Q)(m:kZ V n0 S a e)(n:∀o,cN d=M o->o<n0/\¬V.F o):Row e b d c Q:=by
 let⟨k,i⟩:=h;refine⟨k,?_⟩;obtain i|⟨p,f,g,rfl,j,l⟩:=i;exact J i;exact bj ⟨p,f,g,z,j,λk u i=>m.u (bj<|n p z)<|l k u i⟩
def uD.bM{V:ju}{n0:R}(h:uD V n0 d l a)(b:kZ V n0 aC a e):uD V n0 d l e:=⟨h.bV.bM b h.l,h.l,λt c=>(h.bZ t c).bM b,h.L,h.f⟩
def uD.u{j b a c n:R}{w:Z}(h:uD s j (bX b a n c) l w){i:R}(m:i<y l):bA w (X b<|a+i)=M l[i].D:=by
 obtain⟨_,⟨e,_⟩|⟨b',g,d,e,_,k⟩⟩:=h.bV;cases e;grind
def uD.fR(h:uD s b d l a):(d=aF/\l=[])\/∃f c e,d=bX f c (y l) e:=by
 obtain⟨g,j⟩|⟨f,c,e,g,_⟩:=h.bV.2;grind
 grind
theorem Pe(g:R)(j:af)(h:uD s b d l a)(O:fE a c d 106)(L:fE a k (ay g) 3)(N:fE a n (aw j) 9)(hD:s.D a)(r:b<=G (H a))(hF:∀g,s.F g->g<b)(C:b<=c)(A:b<=k)(B:b<=n)(m:R)(w:g+m<y l):cR bN 339 #[ay m,aJ c,aJ k,aJ n] a λF f=>(∃u o,F=aN (de #[u,ib])/\kw s b u (iX j l[g+m].dq) o f/\s.D f/\I s.F a f/\(∀g,o g->G (H a)<=g))\/∃aa,Es s a f s.F F (λd=>de #[aa,d]):=by
 obtain⟨_,h0⟩|⟨E,e,p,rfl⟩:=h.fR;grind
 have c1:=O.u;have c2:=L.u;have c3:=N.u;have D:=h.u w;have K:=(h.l E z);have:=h.f;have q:cR bN 340 #[l[g+m].D,aw j] a.drew λF f=>∃u o,F=aN u/\kw s b u (iX j l[g+m].dq) o f/\s.D f/\I s.F a.drew f/\(∀g,o g->G (H a)<=g):=EB (n0:=b) (j8:=l[g+m].tb) (ks:=l[g+m].ks) (cs:=l[g+m].cs) j ((h.bZ _<|aB w).bM ⟨aq _,λ_ _=>rfl⟩) (s.l hD (cf aC a) cY) r hF
 have v:=ak (show∀f,I s.F a.drew f->bA f (X c 0)=M (bX E e (y l) p)/\bA f (X k 0)=M (ay g)/\bA f (X E<|e+(g+m))=M l[g+m].D/\bA f (X n 0)=M (aw j)from by
  intro f i;have x:∀a,b<=a->¬s.F a:=aI;exact⟨i.u c1 (x _ C) (az O),i.u c2 (x _ A) (az L),i.u D K.2 (au K.1 r),i.u c3 (x _ B) (az N)⟩)
 have hW:I s.F a a.drew:=cf _ _;generalize l[g+m]=S at*;let⟨t,hm⟩:∃t,g+m=t:=⟨_,rfl⟩;rw[hm]at D v w;have:(g:Y)+(m:Y)=(t:Y):=U;have:(t:Y)<(y l:Y):=U;have:(0:Y)<=(t:Y):=U;have:t<20000000000:=U;have:IntKind.i64.wrap (t:Y)=(t:Y):=by rw[bR];omega
 have:wrap64 (t:Y)=(t:Y):=by unfold wrap64;omega
 unfold cH.D at D v q;generalize S.dq=al at*;generalize S.tb=P at*;go_in
 go_wp21
 go_region_held3(λa=>bA a (X c 0)=M (bX E e (y l) p)/\bA a (X k 0)=M (ay g)/\bA a (X E<|e+t)=M (aJ P)/\bA a (X n 0)=M (aw j)) (first|assumption|go_keep) (first
  |(go_at_call 340;refine q.mono ?_;rintro F w1⟨v1,S1,rfl,r1,r2,Q,r4⟩;have:=v w1 Q;have T:=ak r1;have V:=ak r2;have W:=ak Q;have R4:=ak r4))
 go_wp2;go_ret2
 exact J ⟨v1,S1,z,T,V,hW.aj W<|λ_ c=>J c,R4⟩
def YZ(V:ju)(a:R)(v:ae)(g d e k:R)(h:dI)(q:af):Bl V a (((h.drop k).map cH.dq).map<|iX q)where
 f:=339
 cb:=#[aJ g,aJ d,aJ e]
 A:=λW=>uD V a v h W/\(fE W g v 106/\fE W d (ay k) 3/\fE W e (aw q) 9)/\(a<=g/\a<=d/\a<=e)/\a<=G (H W)/\∀k,V.F k->k<a
 S:=λx=>x=g\/x=d\/x=e
 o:=enters_of func339 aH z
 ug:=by
  rintro t s w⟨n,⟨i,j,m⟩,p,c,hF⟩r;have b:k+t<y h:=aI;rw[mu,mu,rN];grind[Pe]
 l:=by
  rintro W r⟨n,⟨i,j,m⟩,p,c,hF⟩b;exact⟨n.bM<|b.aT cY,⟨i.bM b<|J z,j.bM b<|bj<|J z,m.bM b<|bj<|bj z⟩,p,aR c b.1,hF⟩
 lt:=by
  grind
def VQ(g:af)(h:uD s b d l a)(hD:s.D a)(i:b<=G (H a))(hF:∀k,s.F k->k<b):cR bN 336 #[d,aw g] a λw n=>∃r o,w=aN r/\kw s b r (iX g<|gy l) o n/\s.D n/\I s.F a n/\(∀k,o k->G (H a)<=k):=by
 have u:gC (G<|H a) a (dw (dw a<|aK #[d] 106)<|aK #[aw g] 9):=((Below.refl _ a).alloc (aq _) _).alloc ar _;have v:=BM g ((h.D i).dD u) h.L.A;have:=h.f;have F:=h.fR;have W:=ak (show∀(e:Z)(k:R),gC (G<|H<|dw (dw a<|aK #[d] 106)<|aK #[aw g] 9) (dw (dw a<|aK #[d] 106)<|aK #[aw g] 9) e->so l g k->cR bN 338 #[ay ((y l-k:R):Y),.func (.func 339) #[] #[aJ<|G<|H a,aJ<|G<|H e,aJ<|G (H a)+1]] (dw e<|aK #[ay k] 3) λw n=>∃r o,w=aN r/\kw s b r (iX g<|gy l) o n/\s.D n/\I s.F a n/\(∀k,o k->G (H a)<=k)from by intro e k c p;have q:=c.size;simp at q;have j:I aC a (dw e<|aK #[ay k] 3):=(((I.p (S:=aC) u).t<|I.p (S:=aC) c).aE _);have K:fE e (G<|H a) d 106:=(c.block _ dW).trans<|fE.aE (aQ _ z) _;have L:fE e (G (H a)+1) (aw g) 9:=(c.block _ ar).trans<|aQ _ ar;have E:uD s b d l (dw e<|aK #[ay k] 3):=h.bM<|j.bM i cY cY;have f:=Ko (YZ s b d (G<|H a) (G<|H e) (G (H a)+1) k l g) (dw e<|aK #[ay k] 3) ⟨E,⟨K.aE _,aQ _ z,L.aE _⟩,⟨i,U,U⟩,aR i j.D,hF⟩ (aR i j.D) hF dW;have hl:y (((l.drop k).map cH.dq).map<|iX g)=y l-k:=ar;rw[hl]at f;go_call f as w n⟨r,o,rfl,hg,hb,hS⟩;rw[h.L.Ea g p]at hg;have m:=j.t<|I.p (S:=aC) hb;refine⟨r,o,z,hg,s.l hD m cY,m.aT cY,λac hx=>?_⟩;have:=j.D;obtain(aa|aa|aa)|aa:=hS ac hx<;>omega);have HY:=ak (show∀e,gC (G<|H<|dw (dw a<|aK #[d] 106)<|aK #[aw g] 9) (dw (dw a<|aK #[d] 106)<|aK #[aw g] 9) e->bA e (X (G<|H a) 0)=M d/\G (H a)<G (H e)from by intro e c;have q:=c.size;simp at q;exact⟨fE.u (t:=106)<|(c.block _ dW).trans<|fE.aE (aQ _ z) _,U⟩);obtain⟨rfl,rfl⟩|⟨ad,N,ab,rfl⟩:=F;(·(go_in);go_wp21;go_call v as w e⟨k,rfl,p,c⟩;obtain rfl:k=0:=Nat.le_zero.1 p.le;have f:=W e 0 c p;let⟨y1,y2⟩:=HY e c;go_wp21;go_call f as w w2⟨V,D,rfl,O,P,Q,T⟩;have x:=ak O;have A:=ak P;have B:=ak Q;have C:=ak T;go_wp2;go_ret;exact⟨V,D,z,x,A,B,C⟩);(go_in);go_wp21;go_call v as w e⟨k,rfl,p,c⟩;have:=p.le;have f:=W e k c p;let⟨y1,y2⟩:=HY e c;let⟨j,m⟩:∃j,y l-k=j:=⟨_,rfl⟩;rw[m]at f;have:(y l:Y)-(k:Y)=(j:Y):=U;have:j<=20000000000:=U;(have:IntKind.i64.wrap (j:Y)=(j:Y):=by rw[bR];omega);go_wp21;go_call f as w w2⟨V,D,rfl,O,P,Q,T⟩;have x:=ak O;have A:=ak P;have B:=ak Q;have C:=ak T;go_wp2;go_ret;exact⟨V,D,z,x,A,B,C⟩
def Ra(h:so l B b)(a:so l B c):b=c:=by
 obtain e|e|e:=mT b c;have f:=a.da b (bP a.le) e;have d:=h.xQ b (bP a.le)<|aq _;rw[f]at d;cases d;exact e;have f:=h.da c (bP h.le) e;have d:=a.xQ c (bP h.le)<|aq _;rw[f]at d;cases d
def Gf:∀{f:dI},Dj f->∀a,∃k,so f a k
 |[],_,_=>⟨0,aq _,ar,ar⟩
 |t::f,h,a=>by
  let⟨j,g⟩:=dp.1 h;cases e:kG (iQ t.ks) a with
  |true=>
   let⟨k,d⟩:=Gf g a;refine⟨k+1,wY d.le,λi b c=>?_,λi b c=>?_⟩
   .cases i with
    |zero=>exact e
    |succ i=>exact d.da i (dV b) U
   .cases i with
    |zero=>omega
    |succ i=>exact d.xQ i (dV b) U
  |false=>
   refine⟨0,bQ _,ar,λi b _=>?_⟩;grind[getElem_mem,my]
def VR(c:af)(t:Y)(h:uD s b d l a)(hD:s.D a)(k:b<=G (H a))(hF:∀r,s.F r->r<b):cR bN 335 #[d,aw c,bw t] a λO A=>Uq s a A (kC t (gy l) c) O:=by
 let⟨r,v⟩:=Gf h.L.A c;have o:gC (G<|H a) a (dw a<|aK #[aw ⟨#[]⟩,aw ⟨#[]⟩,aO bD,bw 0] 223):=(Below.refl _ a).alloc (aq _) _;have:=h.f;have K:cR bN 255 #[d,aw c] (dw a<|aK #[aw ⟨#[]⟩,aw ⟨#[]⟩,aO bD,bw 0] 223) λO A=>O=aN (ay r)/\gC (G<|H a) a A/\jP A (G<|H a) zE:=by go_call BM c ((h.D k).dD o) h.L.A as O A⟨w,rfl,D,g⟩;obtain rfl:r=w:=Ra v D;exact⟨z,o.trans<|g.mono o.size,(g.block _ ar).trans<|aQ _ z⟩
 have F:∀al,b<=al->¬s.F al:=aI;let⟨C,B,f⟩:=eU F (λW(n:gC (G<|H a) a W)=>s.l hD (I.p (S:=aC) n) cY)<|λW(n:gC (G<|H a) a W)=>h.bM<|(I.p (S:=aC) n).bM k cY cY;by_cases p:r<y l;(.obtain⟨_,h0⟩|⟨an,x,aa,rfl⟩:=h.fR;(grind);rw[h.L.Eb v p t];have HC:=ak<|λW(n:gC (G<|H a) a W)=>(f W n).u p;have V:=ak<|λW(n:gC (G<|H a) a W)=>EC (n0:=b) (j8:=l[r].tb) (ks:=l[r].ks) (cs:=l[r].cs) c t ((f W n).bZ _<|aB p) (B W n) (aR k n.size) hF;have D:∀W,gC (G<|H a) a W->cR bN 337 #[aJ<|l[r].tb,aw c,bw t] W λO A=>Uq s W A (kC t l[r].dq c) O:=ag V;(have:((r:Y)==(y l:Y))=bD:=by simp;omega);have:(r:Y)<(y l:Y):=U;have:(0:Y)<=(r:Y):=U;unfold cH.D at HC;generalize kC t l[r].dq c=fe at*;generalize l[r].tb=j8 at*;(go_in);(go_wp2_with(go_at_call 255;refine K.mono ?_;rintro O N⟨rfl,j,e⟩;have:=HC N j;have ad:=D N j;have u:=ak e;have m:=ak j));go_call ad as O w2⟨⟨Q,T,xd,P⟩,ok,ev,rfl,ac,ab,L⟩;have g:=u.aA L<|C _ k;let⟨z0,z1,z2,z3⟩:=g.bU;have y0:=g.bS (i:=0);have y1:=g.bS (i:=1);have y2:=g.bS (i:=2);have y3:=g.bS (i:=3);unfold E.t;simp only;go_wp2;refine ci (gY z _ _ (G<|H a) ⟨Q,T,xd,P⟩ _ _ z<|g.gK ⟨Q,T,xd,P⟩) z ?_;have w:=kp w2 (G<|H a) ⟨Q,T,xd,P⟩;exact⟨⟨Q,T,xd,P⟩,ok,ev,z,ac.imp id<|λ⟨a,b,c,q,d,e⟩=>⟨a,b,c,q,d,e.aA w g.nY⟩,s.l ab w (λal hx=>by subst hx;exact C _ k),((I.p (S:=s.F) m).aj L<|λr v=>J v).aj w ar⟩);(.have D:r=y l:=bP v.le;subst D;have g:=h.L.AS v t;rw[g];obtain⟨rfl,rfl⟩|⟨an,x,aa,rfl⟩:=h.fR;(all_goals clear h v hD hF F o g p f;(go_in);(go_wp2_with(go_at_call 255;refine K.mono ?_;rintro O N⟨rfl,j,e⟩;let⟨z0,z1,z2,z3⟩:=e.bU;have:=e.bS (i:=0);have:=e.bS (i:=1);have:=e.bS (i:=2);have:=e.bS (i:=3);have u:=ak e;have m:=ak j));refine ci (gY z _ _ (G<|H a) zE _ _ z<|u.gK zE) z ?_;have w:gC (G<|H a) a (yo N (G<|H a) zE):=m.trans<|(kp N (G<|H a) zE).dD m.size<|λal hx=>U;exact⟨zE,bD,ib,z,J z,B _ w,I.p w⟩))
def Cq{w:Z}(t:cH)(h:Qw w t)(A:nC t.ks<=20000000000):cR bN 205 #[t.D] w λS N=>S=aN (ay (nC t.ks:R))/\gC (G<|H w) w N:=by
 let⟨Q,k,v,o,L,q,b,g,x,f⟩:=h;let⟨V,a,P,dz⟩:=t;simp only at A f|-;unfold cH.D;simp only;have:=aX f.g 5;have m:=f.lt;have:=f.f;have u:=ak f.bU;go_in
 go_wp2;go_loopw [3,11] (λc i wr=>∃n:R,n<=y a/\i=ay n/\c=ay (nC (a.take n):R)/\gC (G<|H w) w wr) (λ_ i _=>y a-(intOf i).toNat)
 exact⟨0,bQ _,z,z,Below.refl _ _⟩;obtain⟨n,T,rfl,rfl,i⟩:=hrel;have:=Kl a n;have c:=Kl a<|n+1;by_cases j:n<y a;(.have e:∀c v,c<5->(pS.bU a[n])[c]?=M v->bA wr (X q<|b+n*5+c)=M v:=λc v d f=>(i.cell (p:=(X q<|b+n*5+c)) m.2).trans (by rw[bJ];exact u _ _<|(jt a n c j d).trans f);rw[aG j,Eh]at c;have d:=ak (show nC (a.take<|n+1)=nC (a.take n)+a[n].A by rw[aG j,Eh]);generalize a[n]=W at*;let⟨pos,s,l,first,r⟩:=W;have C:=e 0 _ U z;have D:=e 1 _ U z;have E:=e 2 _ U z;have F:=e 3 _ U z;have K:=e 4 _ U z;simp only[ma]at C D E F K;simp only at c d;generalize nC (a.take n)=O at*;have B:=i.size;go_wp2;go_roundw;(.exact⟨n+1,j,dM,by rw[ag d];go_num,i.alloc B _⟩);simp[intOf];omega);have d:n=y a:=U;subst d;rw[cQ];go_wp2;go_ret;exact⟨z,i⟩
def lT(a:dI):R:=(a.map<|λt=>nC t.ks).sum
def Kk(a:dI)(t:cH):lT (a++[t])=lT a+nC t.ks:=by simp[lT]
def Kj(a:dI)(n:R):lT (a.take n)<=lT a:=by
 have h:=cD (λl=>(l.map (λt:cH=>nC t.ks)).sum)<|du n a;simp only[bz,eX]at h;unfold lT;omega
def p7{t:cH}(h:t∈l):nC t.ks<=lT l:=by
 induction l with
 |nil=>cases h
 |cons b r a=>
  unfold lT at*;grind
def jX.u{b a c n:R}{w:Z}(h:jX w (bX b a n c) l){i:R}(k:i<y l):bA w (X b<|a+i)=M l[i].D:=by
 obtain⟨_,⟨e,_⟩|⟨b',g,d,e,_,j⟩⟩:=h.bV;cases e;grind
def jX.fR(h:jX a d l):(d=aF/\l=[])\/∃e b c,d=bX e b (y l) c/\y l<=c:=by
 obtain⟨f,g⟩|⟨e,b,c,f,g,_⟩:=h.bV.2;grind
 grind
def BP(h:jX a d l)(v:lT l<=20000000000):cR bN 216 #[d] a λt s=>t=aN (ay (lT l:R))/\gC (G<|H a) a s:=by
 have:=h.f;obtain⟨rfl,rfl⟩|⟨B,k,q,rfl,_⟩:=h.fR;(.clear h;(go_in);go_wp2;(go_loopw [3,8] (λp m wr=>m=ay 0/\p=ay 0/\wr=a) (λ_ _ _=>0));(grind);obtain⟨rfl,rfl,rfl⟩:=hrel;go_wp2;go_ret;exact⟨z,Below.refl _ _⟩);have o:=ak h;(go_in);go_wp2;(go_loopw [3,8] (λp m wr=>∃n:R,n<=y l/\m=ay n/\p=ay (lT (l.take n):R)/\gC (G<|H a) a wr) (λ_ m _=>y l-(intOf m).toNat));exact⟨0,bQ _,z,z,Below.refl _ _⟩;obtain⟨n,w,rfl,rfl,g⟩:=hrel;have:=Kj l n;have e:=Kj l<|n+1;by_cases b:n<y l;(.have c:=o.dD g;have r:=c.u b;rw[aG b,Kk]at e;have i:=ak (show lT (l.take<|n+1)=lT (l.take n)+nC l[n].ks by rw[aG b,Kk]);have f:=Cq (w:=wr) l[n] (c.bZ _<|aB b)<|bP<|p7<|aB b;unfold cH.D at r f;generalize nC l[n].ks=C at*;generalize l[n].tb=x at*;generalize lT (l.take n)=u at*;go_wp21;go_call f as t A⟨rfl,j⟩;go_wp2;go_roundw;(.exact⟨n+1,b,dM,by rw[ag i];go_num,g.trans<|j.mono g.size⟩);simp[intOf];omega);have c:n=y l:=U;subst c;rw[cQ];go_wp2;go_ret;exact⟨z,g⟩
section
open Shelf
attribute [local go_sem] Oper.semAt_some
def qm(v:ae):R->iF->iE
 |_,[]=>[]
 |n,p::a=>By v n (y p)::qm v (n+y p) a
def Bf(v:ae):∀(n:R)(a:iF),y (qm v n a)=y a
 |_,[]=>rfl
 |n,p::a=>by rw[qm,bK,bK,Bf]
def EI(v:ae)(p:dB):∀(n:R)(a:iF),qm v n (a++[p])=qm v n a++[By v (n+y a.flatten)<|y p]
 |_,[]=>by simp[qm]
 |n,q::a=>by
  rw[dt,qm,EI,qm,dt,di,ai,bJ]
structure Fu(W:Z)(base N1:R)(v pv:ae)(ps:iF)(t:R):Prop where
 p:fE W N1 pv 396
 f:fE W (N1+1) (ay<|y ps.flatten) 3
 to:fE W (N1+2) (ay t) 3
 o:fD W base 103 1 pv (y ps) (qm v 0 ps)
 l:∀k,cN pv=M k->k<N1\/N1+4<=k
 D:N1+4<=G (H W)
 bs:base<=N1
def MN(a:R)(b:ae)(k:R):Prop:=(a<=k/\k<a+3)\/cN b=M k
def Fu.aA{m:ae}{T:fB}(h:Fu a c k d m O n)(g:I T a e)(j:∀o,MN k m o->¬T o):Fu e c k d m O n:=⟨h.p.aA g<|j _<|J ⟨U,U⟩,h.f.aA g<|j _<|J ⟨U,U⟩,h.to.aA g<|j _<|J ⟨U,U⟩,g.aZ h.o<|λo p=>j o<|bj p,h.l,aR h.D g.D,h.bs⟩
def Fu.at{e:ae}(h:Fu a c k d e O n)(j:R):Fu (cP a (X (k+2) 0)<|ay j) c k d e O j:=⟨h.p.dN _ U,h.f.dN _ U,h.to.gq _,(fJ a _ 0 _).aZ h.o<|λm g o=>bP<|h.l m g,h.l,by rw[gJ];exact h.D,h.bs⟩
def Fu.jj{f:ae}{p:dB}(h:Fu a b c d w O k)(t:fm a e w f)(C:k=y O.flatten+y p)(A:fD e b 103 1 f (y O+1) (qm d 0 O++[By d (y O.flatten)<|y p])):(bA e (X c 0)=M w/\iH e (X c 0)=bD)/\(bA (cP e (X c 0) f) (X (c+1) 0)=M (ay<|y O.flatten)/\iH (cP e (X c 0) f) (X (c+1) 0)=bD)/\bA (cP e (X c 0) f) (X (c+2) 0)=M (ay k)/\Fu (cP (cP e (X c 0) f) (X (c+1) 0)<|ay k) b c d f (O++[p]) k/\I (MN c w) a (cP (cP e (X c 0) f) (X (c+1) 0)<|ay k)/\∀l,MN c f l->MN c w l\/G (H a)<=l:=by
 have g:=I.fU t;have D:=h.D;have v:∀x,c<=x->x<c+3->¬(cN w=M x):=λx f g n=>bP<|h.l x n;have o:=h.p.aA g aI;have r:=(h.f.aA g aI).dN (b':=c) (i:=0) f U;have u:=(h.to.aA g aI).dN (b':=c) (i:=0) f U;have j:∀l,cN f=M l->l<c\/c+4<=l:=by intro l s;obtain n|⟨x,n,B⟩:=t.f;exact h.l l<|n▸s;grind
 refine⟨⟨o.u,o.bS⟩,⟨r.u,r.bS⟩,u.u,⟨(o.gq f).dN _ U,?_,u.dN _ U,?_,j,?_,h.bs⟩,?_,?_⟩;have:=r.gq<|ay k;rw[C]at this|-;rw[lV,ai];grind
 rw[ai,EI,ez];refine(fJ _ _ 0 _).aZ ((fJ _ _ 0 _).aZ A ?_) ?_;(grind);grind
 rw[gJ,gJ];have:=g.D;omega;exact((g.aT (T:=MN c w)<|λl s=>J<|bj s).aL _ 0 _<|J<|J ⟨U,U⟩).aL _ 0 _<|J<|J ⟨U,U⟩;rintro l(n|n);exact J<|J n;obtain q|⟨x,q,B⟩:=t.f;exact J<|bj<|q▸n;grind
structure Fc(w:Z)(N1:R)(v:ae)(n L:R)(pre:cy (R×dB))(B:fB)(W:Z):Prop where
 ex:∃ps cur pv,Fu W (G (H w)+2) N1 v pv ps (y<|ji pre)/\ji pre=ps.flatten++cur/\(∀rest,lR n L 0 0 [] (pre.map (·.2)++rest)=ps++lR n L (y ps) (y<|ji pre) cur rest)/\∀k,B k↔MN N1 pv k
 l:fE W (G<|H w) v 103
 n:fE W (G (H w)+1) (ay n) 3
 aA:I aC w W
def Fc.lt{w m:Z}{L:R}{e:cy (R×dB)}(h:Fc w c d n L e W m):∀k,W k->G (H w)+2<=k/\k<G (H m):=by
 let⟨p,g,q,a,_,_,i⟩:=h.ex;intro k j;have:=a.bs;have:=a.D;obtain o|o:=(i k).1 j;grind
 have:=aS a.o k o;grind
def Fc.gQ{f:cy (R×dB)}{B T:fB}(h:Fc a b d c k f B e)(g:I T e P)(r:∀o,T o->¬B o/\b+3<=o):Fc a b d c k f B P:=by
 let⟨p,i,q,j,l,m,n⟩:=h.ex;have:=j.bs;exact⟨⟨p,i,q,j.aA g aI,l,m,n⟩,h.l.aA g aI,h.n.aA g aI,h.aA.aj g aI⟩
def Rc{gg:dB}{d:iF}(h:∀a,lR b c 0 0 [] (O++a)=d++lR b c (y d) k i a):((y d+1)*c/b<=k+y gg->∀a,lR b c 0 0 [] (O++[gg]++a)=(d++[i++gg])++lR b c (y<|d++[i++gg]) (k+y gg) [] a)/\(¬(y d+1)*c/b<=k+y gg->∀a,lR b c 0 0 [] (O++[gg]++a)=d++lR b c (y d) (k+y gg) (i++gg) a):=by
 constructor;intro e a;rw[cw,h,dt,ep,qY,fV e];simp;intro e a;rw[cw,h,dt,ep,qY,fM e]
def Zo:(prog.info? 103).map (λi=>(i.zero,i.size,i.bytes))=M (M aF,1,24):=aH
def UT(h:lF a d i)(hs:gF i)(hl:y i<=3000000000)(v:∀k,cN d=M k->k<G (H a)):cR bN 256 #[d] a λdn w'=>∃v',dn=aN v'/\fD w' (G<|H a) 103 1 v' (y<|jp i) (qm d 0<|jp i)/\I aC a w':=by
 let⟨i0,bk,bE,bL,bT⟩:=cZ Zo;let⟨aV,j,bv⟩:=cG h;have cM:=CP d aV (y i) j bv;let⟨N,hN⟩:∃N,wM (y i)=N:=⟨_,rfl⟩;have eb:N<=31250001:=by unfold wM at hN;omega
 have cp:0<y i->0<N:=by unfold wM at hN;omega
 have e1:Int.tdiv ((y i:Y)+96-1) 96=(N:Y):=by have:((y i:Y)+96-1)=((y i+95:R):Y):=U;rw[this,<-hN];unfold wM;grind
 unfold jp;rw[hN];let⟨HN,ch,HH,HV⟩:=jr hN cp h v;subst bv;refine(ew (n:=3)).1 ?_;refine callsIn_of_wp_marks func256 z trivial ?_ z;simp only[ntmps256,gm,bK,eE,jZ,Nat.reduceSub,fc,fa,gp,fG,ep,dt]
 gi_wp2_with(first
  |(gi_at_make;go_loud(refine wpListIn_make_own _ z _ _ 396 z (G (H a)+2) 103 i0 aF 1 underlying396 bk bE bL _ _ _ N z z U (by rw[bT];omega) (by unfold maxLen;omega) ar ?_;intro e dr B;have an:fE e (G<|H a) (.slice aV (y i) j) 103:=(B.block _ (by simp<;>omega) ar).trans<|fE.aE (aQ _ z) _;have ao:fE e (G (H a)+1) (.int .i64 N) 3:=(B.block _ (by simp<;>omega) ar).trans<|aQ _ ar;have y0:=an.u;have y1:=ao.u;have y2:=az an;have y3:=az ao;have y4:G (H a)<G (H e)+1:=U;have y5:G (H a)<G (H e)+1+1:=U;have cc:=ak an;have cd:=ak ao;have al:Hid (fD e (G (H a)+2) 103 1 (bX (G (H a)+1+1) 0 0 N) 0 []):=ak sM;have ce:=ak B))
  |(refine⟨trivial,?_⟩;gi_at_call 142;refine(ew.2 (cM _)).mono ?_;rintro dn w1⟨rfl,rfl⟩))
 let⟨T,r⟩:∃T,(dw (dw (dw (dw e<|aK #[bX (G (H a)+1+1) 0 0 N] 396)<|aK #[ay 0] 3)<|aK #[ay 0] 3)<|aK #[am aV (y i) j] 103)=T:=⟨_,rfl⟩;have eq:G (H T)=G (H e)+4:=by rw[<-r];simp
 have dd:I aC a e:=(((I.bI aC a).aE<|aK #[am aV (y i) j] 103).aE<|aK #[ay N] 3).t<|I.eF (S:=aC) ce ar;have t:I aC e T:=r▸(((cI aC e).aE _).aE _).aE _;have br:I aC a T:=dd.t t;have cx:fE T (G (H e)+3) (am aV (y i) j) 103:=r▸aQ _ ar;have bc:lF T (am aV (y i) j) i:=HH.aA br<|λk b=>⟨id,HV k b⟩;have hA0:Fc a (G<|H e) (am aV (y i) j) N (y i) [] (MN (G<|H e)<|bX (G (H a)+1+1) 0 0 N) T:=by refine⟨⟨[],[],_,⟨?_,?_,?_,?_,?_,U,U⟩,z,λK=>rfl,λk=>th⟩,cc.aA t id,cd.aA t id,br⟩;rw[<-r];grind[fE.aE,aQ];rw[<-r];exact fE.aE (fE.aE (aQ _ ar) _) _;rw[<-r];exact fE.aE (aQ _ ar) _;exact t.aZ al<|λ_ _ j=>j;intro k b;have:=(al.lt k b).2;exact J this
 rw[r];refine tJ (m:=3) (arg:=IZ<|am aV (y i) j) (V:=CX) (n0:=G<|H a) (gf:=209) (lb:=#[aJ<|G (H e)+3]) (l:=pK 0<|jh i) (S:=λk=>k=G (H e)+3) ?geval (enters_of func209 aH z) (λ_=>rfl) (yC (G<|H a) 2 cx bc HV U U) trivial U (λk b=>U) (λf ab bb=>Fc a (G<|H e) (am aV (y i) j) N (y i) f ab bb) (λ_ _ _ _=>False) _ hA0 (λk b j=>by obtain⟨_,j⟩|j:=j;omega;have:=(al.lt k j).2;omega) (λf ab bb x k b=>⟨bP<|(x.lt k b).1,(x.lt k b).2⟩) ?st (λ_ _ _ _ _ _ h=>h.elim) ?body ?done ?stop;rfl;intro f ab bb l n x ht c;refine x.gQ ht<|λk b=>⟨(c k b).1,?_⟩;obtain j|j|j:=(c k b).2;omega;exact j.elim;omega;(case stop=>grind)
 .rintro lr f⟨ac,l⟩ab bb el ck bn C x _;let⟨hn,ev,b⟩:=LP hs.zx C;have ei:0<y l:=iZ.2 b.ne;have ek:ac+y l+y ev=y i:=by rw[b.dq,hn];simp;omega
  let⟨ca,c,ea,hx,ej⟩:=bc.Gg U;cases hx;have cB:∀q∈f.map (·.2),q≠[]:=by
   let⟨_,ad,dn⟩:=AP _ _ _ _ _ C;exactλq hq=>FK i q (by rw[<-dn];simp[hq])
  unfold IZ By;simp only;have P:=hn.symm;clear C b hn;gi_wp2;refine⟨I.bI _ _,λL D=>?_⟩;have hA2:=x.gQ D<|λk b=>aI;let⟨g,w,pv,v,hcut,u,hB⟩:=hA2.ex;rw[P]at v u;have em:y g<=ac:=by
   have h1:=u [];rw[eu]at h1;have h2:g=lR N (y i) 0 0 [] (f.map (·.2)):=by rw[h1];simp[lR]
   have h3:=EL (ps:=g)<|h2▸Nw _ _ _ _ cB;have h4:=cD y hcut;rw[P,ai]at h4;omega
  have bh:y g.flatten+y w=ac:=by rw[<-P,hcut,ai]
  let⟨px,pc,av⟩:=aM v.o;have z0:=v.to.u;have z1:=v.to.bS;have aU:=v.at (ac+y l);have E:I ab L (cP L (X (G (H e)+2) 0)<|ay ((ac+y l:R):Y)):=(I.bI ab L).aL _ 0 _<|J<|(hB _).2<|J ⟨U,U⟩;have bl:=hA2.l.aA E<|λj=>bP<|(x.lt _ j).1;have bo:=hA2.n.aA E<|λj=>bP<|(x.lt _ j).1;let⟨q,hq⟩:∃q,(y g+1)*y i/N=q:=⟨_,rfl⟩;let⟨cb,hp⟩:∃cb,(y g+1)*y i=cb:=⟨_,rfl⟩;have en:cb<=3000000001*3000000000:=hp▸Nat.mul_le_mul U hl;have a1:((y g:Y)+1)*(y i:Y)=(cb:Y):=by rw[<-hp];grind
  have a2:Int.tdiv (cb:Y) (N:Y)=(q:Y):=by rw[<-hq,hp];grind
  have ec:=ch U;have ax:=Rc (gg:=l) u;rw[hq]at ax;have b1:((N:Y)==0)=bD:=by simp;omega
  have b2:IntKind.i64.wrap (cb:Y)=(cb:Y):=by rw[bR];omega
  have eo:q<=cb:=hq▸hp▸Nat.div_le_self _ _;have b3:IntKind.i64.wrap (q:Y)=(q:Y):=by rw[bR];omega
  have dv:¬((N:Y)=0):=U;have dx:¬(N=0):=U;subst av;gi_wp2_with fail
  rw[show G (H e)+1+1=G (H e)+2 from rfl,show G (H e)+2+1=G (H e)+3 from rfl,show((ac:Y)+(y l:Y))=((ac+y l:R):Y)by push_cast;rfl];generalize ed:cP L (X (G (H e)+2) 0) (ay ((ac+y l:R):Y))=W3 at*;have s0:=aU.to.u;have s1:=aU.p.u;have s2:=bl.u;have s3:=bo.u;let⟨ad,F⟩:∃ad,ac+y l=ad:=⟨_,rfl⟩;rw[F]at s0|-;rename_i QQ KK co;refine Du aH aH aH (λet a h=>h) ?_;repeat(quiet_step (fail))
  refine wpQuiet_nil ?_;rintro _⟨nq,rfl⟩;show KK _ _;apply co;have b4:IntKind.i64.wrap ((y g:Y)+1)=(y g:Y)+1:=by rw[bR];omega
  rw[b4,a1,b2,a2,b3];let⟨o,bf⟩:∃o,W3.drewN nq=o:=⟨_,rfl⟩;have n:I aC W3 o:=bf▸gO _ W3 nq;rw[bf];have bt:=aU.aA n<|λ_ _=>id;have er:I (λk=>ab k\/k=lr) bb o:=((D.aT<|λk b=>J<|bj b).aj E<|λk b=>J<|J b).t n;have ap:=bl.aA n id;have cT:=bo.aA n id;have bs:I aC a o:=(hA2.aA.aj E<|λk b=>bj<|bP<|(hA2.lt k b).1).t n;have aa:I ab L o:=E.t n;have bm:lr<G (H L):=au bn.1 D.D;have eg:G (H bb)<=G (H L):=D.D;have Q:=ak (show∀(O:Z)(W:ae)(p:iF)(cu:dB),Fu O (G (H a)+2) (G<|H e) (bX ca c (y i) j) W p (ac+y l)->ji f++l=p.flatten++cu->(∀K,lR N (y i) 0 0 [] (f.map (·.2)++[l]++K)=p++lR N (y i) (y p) (ac+y l) cu K)->I ab o O->(∀k,MN (G<|H e) W k->ab k\/G (H o)<=k)->DL CX (λf ab bb=>Fc a (G<|H e) (bX ca c (y i) j) N (y i) f ab bb) (λ_ _ _ _=>False) (f++[(ac,l)]) ab bb L lr .normal ⟨#[],[]⟩ O fromλO W p cu h1 h2 h3 h4 h5=>by
   have e1:ji (f++[(ac,l)])=ji f++l:=vG _ _ _;have e2:y (ji<|f++[(ac,l)])=ac+y l:=by rw[e1,ai,P]
   have A:∀k,ab k->G (H a)+2<=k:=λk b=>(hA2.lt k b).1;have s:I ab L O:=aa.aj h4 (λk b=>J b);refine⟨trivial,MN (G (H e)) W,⟨⟨p,cu,W,e2▸h1,e1▸h2,e2▸bz▸h3,λk=>th⟩,ap.aA h4 (λj=>bP (A _ j)),cT.aA h4 (λj=>bP (A _ j)),bs.aj h4 (λk b=>bj (bP (A k b)))⟩,(D.aT (λk b=>J (bj b))).aj s (λk b=>J (J b)),s.A lr bm ck,λk b=>(h5 k b).imp_right (λj=>bP aa.D)⟩)
  have bi:y g.flatten<=ad/\y g.flatten<ad:=bP bh;by_cases bq:q<=ad
  .have dc:(q:Y)<=(ad:Y):=U;have O:∀p:Z,I aC o p->Fu p (G (H a)+2) (G<|H e) (bX ca c (y i) j) (am px (y g) pc) g ad:=λp ht=>F▸bt.aA ht (λ_ _=>id);let⟨W,hf⟩:∃W,y g.flatten=W:=⟨_,rfl⟩;have ba:=ak (show∀p:Z,I aC o p->bA p (X (G<|H e) 0)=M (am px (y g) pc)/\bA p (X (G<|H a) 0)=M (bX ca c (y i) j)/\bA p (X (G (H e)+1) 0)=M (ay (W:Y))/\bA p (X (G (H e)+2) 0)=M (ay (ad:Y))fromλp ht=>⟨(O p ht).p.u,(ap.aA ht id).u,hf▸(O p ht).f.u,(O p ht).to.u⟩);rw[hf]at bi;have cr:=ba o.drew<|cf _ o;have b4:(W:Y)<=(ad:Y):=U;have b5:(ad:Y)<=(j:Y):=U;have b6:¬(j-W=0):=U;have b7:(0:Y)<=(W:Y):=U;have dT:¬(j=W):=U;gi_wp2_with fail
   rename_i ds cj bd;refine wk (λp=>bA p (X (G<|H e) 0)=M (am px (y g) pc)/\bA p (X (G<|H a) 0)=M (bX ca c (y i) j)/\bA p (X (G (H e)+1) 0)=M (ay (W:Y))/\bA p (X (G (H e)+2) 0)=M (ay (ad:Y))) 7 aH aH (λet a h=>h) ?_;refine dH 0 ?_;iterate 5 (refine fW cr ?_;simp only[ig,eh,jZ])
   apply eS;refine aW 5 ?_;intro K5 cl;go_simp;have A:I aC o (dw o<|aK #[bX ca (c+W*4) (ad-W)<|j-W] 103).drew:=(cI _ o).df z;have s:=O _ A;have es:=s.D;refine cl _ _ (λ_=>ba _ A) ?_;refine aW 6 ?_;intro K6 cm;simp only[dl,cF,cO];refine lN (.tmp 32) (.tmp 37) 396 z (G (H a)+2) 103 i0 aF 1 24 underlying396 bk bE bL bT z cg (am px (y g) pc) (y g) (qm (bX ca c (y i) j) 0 g) z s.o (X (G<|H o) 0) 1 1 [bX ca (c+W*4) (ad-W)<|j-W] z z (rE _ _ _) (by simp[Value.oneCell']) U U aI ?_;intro v6 w6 db bx;obtain⟨x6,c6,dk⟩:=aM db;subst dk;let⟨⟨y0,y1⟩,⟨y4,y5⟩,y6,cv,cu,cs⟩:=s.jj (p:=w++l) bx (by rw[ai];have:=bh;omega) (by
    have dn:By (bX ca c (y i) j) (y g.flatten) (y<|w++l)=bX ca (c+W*4) (ad-W) (j-W):=by
     unfold By;grind[ag,length_append]
    rwa[dn])
   have aD:=I.fU bx;have bp:∀aV,G (H e)<=aV->aV<G (H e)+3->¬(cN (am px (y g) pc)=M aV):=λaV h1 h2 q=>bP<|s.l aV q;refine cm _ _ (λ_=>⟨y0,((ap.aA A id).aA aD<|λq=>bP<|(aS s.o _ q).1).u,hf▸(s.f.aA aD<|bp _ U U).u,(s.to.aA aD<|bp _ U U).u⟩) ?_;have bg:=Q _ _ _ [] (F▸cv) (by rw[hcut];simp) (ax.1<|F▸bq) (((I.bI aC o).t A|>.aT cY).aj cu<|λk b=>J<|(hB k).2 b)<|λk b=>(cs k b).imp (λj=>(hB k).2 j)<|λj=>bP A.D;rw[hf]at y4;refine aW 7 ?_;intro K7 cn;go_simp;refine cn _ _ (λq=>(q z).elim) ?_;refine dG aH ?_ _;show cj _ _;refine bd _ _ ?_;gi_wp2;exact bg
  .have dc:¬((q:Y)<=(ad:Y)):=U;have p:=ak<|Q o _ g (w++l) bt (by rw[hcut,cw]) (ax.2<|F▸bq) (I.bI _ _)<|λk b=>J<|(hB k).2 b;gi_wp2;exact p
 intro D ab bb E x l _ p;let⟨g,w,pv,v,hcut,u,hB⟩:=x.ex;rw[CS]at hcut v u;(have o:lR N (y i) 0 0 [] (jh i)=g:=by have:=u [];rw[DY,eu]at this;rw[this];simp[lR]);let⟨px,pc,av⟩:=aM v.o;have:=v.p.u;have n:cN pv≠M D:=λq=>l<|(hB D).2<|bj q;let⟨A,s,C⟩:=eU v.o p x.aA;have:=az p;subst av;gi_wp2;have c:=iB bb D<|.deferred dE;refine⟨ar,J ⟨_,_,z,run_takeDeferred s,?_⟩⟩;refine⟨_,gG z _ _ _,?_⟩;exact⟨_,z,by rw[o];exact fh (c.aZ A<|λk b q=>n<|q▸b) U,C.aj c<|λk b=>bj (by subst b;omega)⟩
end
def jX.ot{ts:dI}(h:jX a (bX b c (y ts) k) ts)(i:R)(l:i<=y ts):jX a (bX b c i k) (ts.take i):=by
 have g:y (ts.take i)=i:=by simp;omega
 have:=h.fR;refine⟨⟨ar,bj ⟨b,c,k,by rw[g],?_,λo u d=>?_⟩⟩,λm f=>h.lt m f,λt j=>h.bZ t<|ix j,bP h.f⟩;grind
 rw[List.map_take,qJ]at d;split at d;rename_i e;rw[fO,bF U]at d;cases d;exact h.u U;cases d
def jX.pM(h:jX a (bX b c (y v) k) v)(i:R)(m:i<=y v):jX a (bX b (c+i) (y v-i)<|k-i) (v.drop i):=by
 have g:y (v.drop i)=y v-i:=ar;have:=h.fR;refine⟨⟨ar,bj ⟨b,c+i,k-i,by rw[g],?_,λn u e=>?_⟩⟩,λo f=>h.lt o (by simpa[cN]using f),λt j=>h.bZ t<|mU j,bP h.f⟩;grind
 rw[List.map_drop,List.getElem?_drop]at e;(have d:i+n<y v:=by grind);rw[fO,bF d]at e;cases e;rw[bJ];exact h.u d
def jX.D(h:jX a (bX b c n k) l)(d:R):jX a (bX b d 0 0) []:=⟨⟨z,ar⟩,(λf e=>h.lt f<|by simpa[cN]using e),aI,bQ _⟩
structure Iu(ts:dI)(lo hi:af)(i j:R):Prop where
 f:so ts lo i
 le:i<=j
 v:j<=y ts
 zbg:∀k(hk:k<y ts),i<=k->k<j->kG hi (io ts[k].ks)=bD
 l:∀(hj:j<y ts),kG hi (io ts[j].ks)=cz
def Pf(E p:af)(h:jX a d l)(hs:Dj l):cR bN 195 #[d,aw E,aw p] a λW F=>∃i D Q S T,W=aN (de #[Q,S,T])/\Iu l E p i D/\jX F Q (l.take i)/\jX F S ((l.drop i).take<|D-i)/\jX F T (l.drop D)/\(∀k,cN Q=M k\/cN S=M k\/cN T=M k->cN d=M k)/\gC (G<|H a) a F:=by
 have:=h.f;have C:=BM E h hs;obtain⟨rfl,rfl⟩|⟨ab,f,c,rfl,aa⟩:=h.fR;(.clear h hs;(go_in);go_wp21;go_call C as W V⟨k,rfl,e,s⟩;obtain rfl:k=0:=Nat.le_zero.1 e.le;have L:=ak e;go_wp2;(go_loopw [10] (λD wr=>D=ay 0/\wr=V) (λ_ _=>0));(grind);obtain⟨rfl,g⟩:=hrel;subst wr;go_wp21;(go_quiet(fail));go_wp2;(go_ret3);have b:jX (V.drewN nq) aF []:=⟨⟨z,J ⟨z,z⟩⟩,(by intro k e;cases e),aI,bQ _⟩;exact⟨0,0,_,_,_,z,⟨L,aq _,aq _,ar,ar⟩,b,b,b,sM,below_drewN s _⟩)
 .have HL:=ak h;have:=L0;go_in
  go_wp21;go_call C as W V⟨i,rfl,e,s⟩;have u:=e.le;have L:=ak e;go_wp2;go_loopw [10] (λD wr=>∃n:R,i<=n/\n<=y l/\D=ay n/\(∀k(e:k<y l),i<=k->k<n->kG p (io l[k].ks)=bD)/\gC (G<|H a) a wr) (λD _=>y l-(intOf D).toNat)
  .exact⟨i,aq _,u,z,aI,s⟩
  .obtain⟨n,P,B,rfl,hw,w⟩:=hrel;have g:=HL.dD w;have:(i:Y)<=(n:Y):=U;have:(n:Y)<=(y l:Y):=U;have:(i:Y)<=(y l:Y):=U;have:(n:Y)<=(c:Y):=U;have:(i:Y)<=(c:Y):=U;have:(y l:Y)<=(c:Y):=U;have o:=ak (show(∀(a:n<y l),kG p (io l[n].ks)=cz)->Iu l E p i n/\jX wr (bX ab f i c) (l.take i)/\jX wr (bX ab (f+i) (n-i)<|c-i) ((l.drop i).take<|n-i)/\jX wr (bX ab (f+n) (y l-n)<|c-n) (l.drop n)from by
    intro j;refine⟨⟨L,P,B,hw,j⟩,g.ot i u,?_,g.pM n B⟩;have t:=g.pM i u;have K:=jX.ot (ts:=l.drop i) (iY▸t) (n-i) (by rw[iY];omega);exact K)
   by_cases m:n<y l
   .have hp:=g.u m;have t:=(g.bZ _<|aB m).eJ;have e7:(n:Y)<(y l:Y):=U;have:(0:Y)<=(n:Y):=U;have j:=FH (io l[n].ks) p;unfold cH.D at hp t;cases hkl:kG p (io l[n].ks)with
    |false=>
     rw[hkl]at j;simp only[zn]at j;have O:=ak (show∀k(e:k<y l),k=n->kG p (io l[k].ks)=bD fromλk e W=>aI);generalize io l[n].ks=fk at*;generalize l[n].tb=j8 at*;go_wp21;go_call t as W N⟨rfl,K⟩;subst N;go_wp2;go_roundw
     .exact⟨n+1,U,m,dM,λk e b ab=>by obtain ac|ac:=iT k n;exact hw k e b ac;exact O k e U,w⟩
     .simp[intOf];omega
    |true=>
     rw[hkl]at j;simp only[tj]at j;have x:=ak<|o<|λ_=>hkl;generalize io l[n].ks=fk at*;generalize l[n].tb=j8 at*;go_wp21;go_call t as W N⟨rfl,K⟩;subst N;go_wp21;go_quiet(fail)
     go_wp2;go_ret3
     let⟨q,r,v,A⟩:=ag x;have b:gC (G<|H wr) wr (wr.drewN nq):=below_drewN (Below.refl _ _) _;exact⟨i,n,_,_,_,z,q,r.dD b,v.dD b,A.dD b,(by intro k e;simpa[cN]using e),below_drewN w _⟩
   .have t:n=y l:=U;have x:=ak<|o<|λa=>absurd a m;have:¬(n:Y)<(y l:Y):=U;have N:=g.D f;have K:=ak (show l.drop n=[]by rw[t,lh]);obtain hc|hc:=iT n c
    .have:¬(c-n=0):=U;have j:¬(c-i=0):=U;clear t;go_wp21;go_quiet(fail)
     go_wp2;go_ret3
     let⟨q,r,v,A⟩:=ag x;have b:gC (G<|H wr) wr (wr.drewN nq):=below_drewN (Below.refl _ _) _;exact⟨i,n,_,_,_,z,q,r.dD b,v.dD b,A.dD b,(by intro k e;simpa[cN]using e),below_drewN w _⟩
    .have j:c=n:=U;subst j;clear t;obtain O|O:=iT i c
     .have:¬(c-i=0):=U;go_wp21;go_quiet(fail)
      go_wp2;go_ret3
      let⟨q,r,v,A⟩:=ag x;have b:gC (G<|H wr) wr (wr.drewN nq):=below_drewN (Below.refl _ _) _;refine⟨i,c,_,_,_,z,q,r.dD b,v.dD b,?_,(by intro k e;simpa[cN]using e),below_drewN w _⟩;rw[ag K];exact N.dD b
     .have j:i=c:=U;subst j;go_wp21;go_quiet(fail)
      go_wp2;go_ret3
      let⟨q,r,v,A⟩:=ag x;have b:gC (G<|H wr) wr (wr.drewN nq):=below_drewN (Below.refl _ _) _;refine⟨i,i,_,_,_,z,q,r.dD b,?_,?_,(by intro k e;simpa[cN]using e),below_drewN w _⟩
      .rw[ag K,xX];exact N.dD b
      .rw[ag K];exact N.dD b
def jX.df{w w':Z}(h:jX w d l)(j:w'.heap=w.heap):jX w' d l:=by
 refine⟨?_,λq n=>j▸h.lt q n,λt o=>(h.bZ t o).df j,h.f⟩;obtain⟨i,g|⟨p,b,e,g,k,m⟩⟩:=h.bV;exact⟨i,J g⟩;exact⟨i,bj ⟨p,b,e,g,k,λo u n=>(dZ (w:=w)<|by rw[j]).trans<|m o u n⟩⟩
def wV(a:dI):Prop:=∀i(h:i+1<y a),kG (iQ a[i].ks) (io a[i+1].ks)=cz
def lZ.fp(h:lZ l):wV l:=by
 intro i a;let⟨x,d,b⟩:=(h.p _<|aB<|show i<y l by omega).A;let⟨f,e,c⟩:=(h.p _<|aB a).p;rw[<-b,<-c];exact h.D U a U d e
def ApP(a:dI)(w c:Z)(e:Ending):Prop:=∃b,e=aN (aO b)/\(b=cz->wV a)/\(b=bD->a≠[])/\gC (G<|H w) w c
def WZ(h:jX a d l):cR bN 118 #[d] a λA k=>ApP l a k A:=by
 have L:=h.f;obtain⟨rfl,rfl⟩|⟨S,v,E,rfl,_⟩:=h.fR;(.clear h;(go_in);go_wp2;(go_loopw [6] (λi wr=>i=ay 0/\wr=a) (λ_ _=>0));(grind);obtain⟨rfl,rfl⟩:=hrel;go_wp2;go_ret;exact⟨cz,z,λ_=>by intro i h;simp at h,ar,Below.refl _ _⟩)
 .have C:=ak h;have F:=Ma;clear h;go_in
  go_wp2;go_loopw [6] (λi wr=>∃o:R,o<=y l/\i=ay o/\gC (G<|H a) a wr/\Hid (∀i(h:i+1<y l),i+1<o->kG (iQ l[i].ks) (io l[i+1].ks)=cz)) (λi _=>y l-(intOf i).toNat)
  .exact⟨0,bQ _,z,Below.refl _ _,ak U⟩
  .obtain⟨o,K,rfl,g,x⟩:=hrel;have b:=C.dD g;by_cases n:o<y l
   .obtain s|s:=fN o
    .subst s;clear b;go_wp21;go_quiet(fail)
     go_wp2;go_roundw
     .exact⟨1,U,dM,below_drewN g _,ak U⟩
     .simp[intOf];omega
    .obtain⟨m,rfl⟩:∃m,o=m+1:=⟨o-1,U⟩;have u:=b.u (show m<y l by omega);have j:=b.u n;have e:∀W,W.heap=wr.heap->cR bN 183 #[l[m].D] W λA k=>A=aN (aw<|iQ l[m].ks)/\∃q,k=W.drewN q:=λW a=>((b.bZ _<|aB<|show m<y l by omega).df a).eP;have c:∀W,W.heap=wr.heap->cR bN 184 #[l[m+1].D] W λA k=>A=aN (aw<|io l[m+1].ks)/\k=W:=λW a=>((b.bZ _<|aB n).df a).eJ;have f:=ak (show kG (iQ l[m].ks) (io l[m+1].ks)=cz->∀i(h:i+1<y l),i+1<m+1+1->kG (iQ l[i].ks) (io l[i+1].ks)=cz fromλq i h t=>by
      by_cases D:i+1<m+1
      .exact ag x i h D
      .obtain rfl:i=m:=U;exact q)
     have p:=ak (show kG (iQ l[m].ks) (io l[m+1].ks)=bD->¬wV l fromλq D=>by have:=D m n;rw[q]at this;cases this);clear b;unfold cH.D at u j e c;generalize iQ l[m].ks=N at*;generalize io l[m+1].ks=O at*;generalize l[m].tb=P at*;generalize l[m+1].tb=Q at*;let⟨w,t⟩:∃w,m+1=w:=⟨_,rfl⟩;rw[t]at j n s K|-;have:(w:Y)-1=(m:Y):=U;have:(m:Y)<(y l:Y):=U;have:(w:Y)<(y l:Y):=U;have:IntKind.i64.wrap (m:Y)=(m:Y):=by rw[bR];omega
     have:(0:Y)<(w:Y):=U;have:(0:Y)<=(m:Y):=U;have B:m<y l:=U;cases hlt:kG N O
     .unfold kG at hlt;go_wp21;go_quiet(first
       |(go_at_call 183;refine Calls.quiet_of (e _ z))
       |(go_at_call 184;refine Calls.quiet_of_same (c _ z)))
      go_wp2;go_ret;exact⟨bD,z,ar,λ_ q=>(by rw[q]at B;simp at B),below_drewN g _⟩
     have r:=ak<|ag f hlt;unfold kG at hlt;clear f p;go_wp21;go_quiet(first
      |(go_at_call 183;refine Calls.quiet_of (e _ z))
      |(go_at_call 184;refine Calls.quiet_of_same (c _ z)))
     go_wp2;go_roundw
     .exact⟨w+1,U,dM,below_drewN g _,ak<|λi h q=>ag r i h<|bP t⟩
     .simp[intOf];omega
   .have c:o=y l:=U;subst c;clear b;go_wp2;go_ret;exact⟨cz,z,λ_ i h=>ag x i h h,ar,g⟩
def MK(w:Z)(d:R)(t:cH):Prop:=∃c b a,mQ w t.tb (aJ d) t.cK (jM t.ks) (y<|iD t.ks) (pt<|iD t.ks) c b a aF t.ks
def MK.XF{t:cH}(h:MK a b t):Qw a t:=by
 let⟨e,d,c,f⟩:=h;exact⟨_,_,_,_,_,e,d,c,_,f⟩
def MK.dD{t:cH}(h:MK a b t)(g:gC (G<|H a) a e):MK e b t:=by
 let⟨i,d,c,f⟩:=h;exact⟨i,d,c,f.dU (g.block _ f.lt.1)<|g.block _ f.lt.2⟩
def cH.t(t:cH):iE:=[bw t.cK,eI<|jM t.ks,eI<|y<|iD t.ks,eI<|pt<|iD t.ks]
def fX(a:dI):iE:=a.flatMap cH.t
def Sn(a:dI)(t:cH):fX (a++[t])=fX a++t.t:=by simp[fX]
def Pm:(prog.info? 234).map (λi=>(i.zero,i.size,i.bytes))=M (M<|ef #[bw 0,eI 0,eI 0,eI 0],4,24):=aH
def Al(x c m9 u:ae)(t:TypeId)(d:b=G (H a)):∀j q,[x,c,m9,u][j]?=M q->bA (dw a<|aK #[x,c,m9,u] t) (((X b 0):Addr).add j)=M q:=by
 intro j q e;subst d;rw[dS];simp_all
def Sx(w:Z)(db:R)(ac:ae)(a:dI)(h:jX w ac a)(F:∀al∈a,MK w db al)(hl:y a<=20000000000):cR bN 202 #[ac] w λab N=>∃L,ab=aN L/\fD N (G<|H w) 234 4 L (y a) (fX a)/\gC (G<|H w) w N:=by
 let⟨C,j,l,m,o⟩:=cZ Pm;obtain⟨rfl,rfl⟩|⟨an,D,W,rfl,_⟩:=h.fR
 .clear h F;go_in
  go_wp2_with(first
   |(at_make;go_loud(refine ke _ z _ _ 158 z (G (H w)) 234 C (.agg #[.int .u64 0,.int .u32 0,.int .u32 0,.int .u32 0]) 4 underlying158 j l m _ _ _ 0 z z U (by rw[o];omega) aI (aq _) ?_;intro O d c;have g:=ak d;have f:=ak c)))
  go_loopw [3,11] (λaa K wr=>K=ay 0/\fD wr (G<|H w) 234 4 aa 0 []/\wr=O) (λ_ _ _=>0)
  .exact⟨z,g,z⟩
  .obtain⟨rfl,r,b⟩:=hrel;subst wr;obtain⟨ad,P,rfl⟩:=aM r;go_wp2;go_ret;exact⟨_,z,r,(I.eF (S:=aC) f ar).dD (aq _) cY⟩
 .have Q:=ak h;go_in
  go_wp2_with(first
   |(at_make;go_loud(refine ke _ z _ _ 158 z (G (H w)) 234 C (.agg #[.int .u64 0,.int .u32 0,.int .u32 0,.int .u32 0]) 4 underlying158 j l m _ _ _ (y a) z z U (by rw[o];omega) (by unfold maxLen;omega) (aq _) ?_;intro O d c;have g:=ak d;have f:=ak c)))
  go_loopw [3,11] (λaa K wr=>∃n:R,n<=y a/\K=ay n/\fD wr (G<|H w) 234 4 aa n (fX<|a.take n)/\I aC w wr) (λ_ K _=>y a-(intOf K).toNat)
  .exact⟨0,bQ _,z,g,I.eF (S:=aC) f ar⟩
  .obtain⟨n,hn,rfl,b,k⟩:=hrel;have x:=k.dD (aq _) cY;have:=k.D;let⟨ad,P,r⟩:=aM b;by_cases e:n<y a
   .have hp:=(Q.dD x).u e;let⟨bb,E,q,hm⟩:=(F _<|aB e).dD x;have p:=YM hm;let⟨u,T,V⟩:=eU (show fX (a.take<|n+1)=fX (a.take n)++[bw a[n].cK,eI<|jM a[n].ks,eI<|y<|iD a[n].ks,eI<|pt<|iD a[n].ks]by rw[aG e,Sn];rfl) b k;have:=b.lt;unfold cH.D at hp;unfold GZ at p;generalize a[n].cK=x0 at*;generalize(jM a[n].ks)=x1 at*;generalize y (iD a[n].ks)=x2 at*;generalize pt (iD a[n].ks)=x3 at*;generalize a[n].tb=j8 at*;subst r;go_wp21;go_call p as ab w1⟨rfl,i⟩;have s:=ak<|(I.p (S:=aC) i).aZ T<|λ_ _ P=>P;have:=i.size;go_wp2_with(first
     |(at_builtin;go_loud(refine cq _ z (.tmp 15) (.tmp 18) 158 z (G (H w)) 234 C (.agg #[.int .u64 0,.int .u32 0,.int .u32 0,.int .u32 0]) 4 24 underlying158 j l m o z cg (.slice ad n P) n (fX (a.take n)) z (bC s _) (X (G (H w1)) 0) 1 1 [.int .u64 x0,.int .u32 x1,.int .u32 x2,.int .u32 x3] z z (Al _ _ _ _ _ z) (by simp[Value.oneCell']) U U dW ?_;intro o2 w2 A B;have t:=ak A;have v:=ak B)))
    go_roundw
    .refine⟨n+1,e,dM,ag u▸t,?_⟩;exact((V.t<|I.p (S:=aC) i).aE _).aj (I.fU v) aI
    .simp[intOf];omega
   .have i:n=y a:=U;subst i;rw[cQ]at b;go_wp2;go_ret;exact⟨_,z,b,x⟩
def OI(v:ae)(w:Z):(Go.method 577 106 v "From").run bN w=.ok (336,v) w:=aH
def OH(v:ae)(w:Z):(Go.method 577 235 v "From").run bN w=.ok (340,v) w:=aH
def nz.xK(h:uD s b d l a)(c:b<=G (H a))(hF:∀k,s.F k->k<b):nz s b (.iface 106 d) (gy l) a:=⟨_,d,_,d,z,OI d,enters_of func336 aH z,λg i e f=>VQ g (h.bM e) f (aR c e.1) hF⟩
def nz.FB{t:cH}(h:nX s b t.tb t.ks t.cs a)(c:b<=G (H a))(hF:∀k,s.F k->k<b):nz s b (.iface 235 t.D) t.dq a:=⟨_,t.D,_,t.D,z,OH t.D,enters_of func340 aH z,λf g d e=>EB f (h.bM d) e (aR c d.1) hF⟩
def LW:(prog.info? 221).map (λi=>(i.zero,i.size,i.bytes))=M (M ib,1,16):=aH
structure Xg(w:Z)(base:R)(t:cH)(bb vV x IX:R):Prop where
 ks:t.ks=dK 0 t.cs
 cK:t.cK=0
 f:sq t.dq t.cs
 D:mQ w t.tb (ee dE) 0 0 0 0 bb 0 vV (bX x 0 (y<|gD t.cs) IX) t.ks
 A:fy w base (bX x 0 (y<|gD t.cs) IX) (gD t.cs)
 L:fD w base 383 5 (bX bb 0 (y t.ks) vV) (y t.ks) (fK t.ks)
 lX:base<=t.tb
def B9(w:Z)(d:R)(t:cH):Prop:=∃c a x b,Xg w d t c a x b
def Xg.aA{S:fB}{w w':Z}{t:cH}{x a:R}(h:Xg w c t k n x a)(d:I S w w')(j:¬S t.tb)(g:¬S k)(m:¬S x):Xg w' c t k n x a:=⟨h.ks,h.cK,h.f,h.D.dU (d.A _ h.D.lt.1 j)<|d.A _ h.D.lt.2 g,d.aZ h.A (λo e=>by cases e;exact m),d.aZ h.L (λo e=>by cases e;exact g),h.lX⟩
def Xg.dN{t:cH}{d:R}(h:Xg a b t c k n d)(r:I W a e)(m:∀p,W p->∃f T g,a.heap[p]?=M (aK f T g)/\T≠323/\T≠383/\T≠5):Xg e b t c k n d:=by
 refine h.aA r (λo=>?_) (λo=>?_)<|λo=>?_;let⟨f,T,g,j,l,_⟩:=m _ o;exact lj j h.D.g l z;let⟨f,T,g,j,_,l,_⟩:=m _ o;let⟨c2,q⟩:=fZ h.L (k:=c) rfl;grind
 let⟨f,T,g,j,_,_,l⟩:=m _ o;let⟨c2,q⟩:=fZ h.A (k:=n) rfl;grind
structure NT where
 t:cH
 bb:R
 vV:R
 x:R
 IX:R
def NT.Ok(w:Z)(a:R)(p:NT):Prop:=Xg w a p.t p.bb p.vV p.x p.IX
def NT.D(p:NT)(k:R):Prop:=k=p.t.tb\/k=p.bb\/k=p.x
def NT.mF(p q:NT):Prop:=∀k,p.D k->¬q.D k
def NT.Ok.lt{w:Z}{p:NT}(h:p.Ok w c):∀k,p.D k->c<=k/\k<G (H w):=by
 rintro k(rfl|rfl|rfl);exact⟨h.lX,h.D.lt.1⟩;exact⟨(h.L.lt _ z).1,h.D.lt.2⟩;exact fy.lt h.A _ z
def NT.Ok.aA{S:fB}{w w':Z}{p:NT}(h:p.Ok w c)(d:I S w w')(a:∀k,p.D k->¬S k):p.Ok w' c:=Xg.aA h d (a _<|J rfl) (a _<|bj<|J rfl)<|a _<|bj<|bj rfl
def NT.Ok.pO{d base':R}{p:NT}(h:p.Ok a d)(c:base'<=d):p.Ok a base':=⟨h.ks,h.cK,h.f,h.D,h.A.pO c,fh h.L c,aR c h.lX⟩
def NT.Ok.zeb{p:NT}(h:p.Ok a b):B9 a b p.t:=⟨_,_,_,_,h⟩
def sD(w:Z)(c:R)(d:dI):Prop:=∃a:cy NT,a.map NT.t=d/\(∀p∈a,p.Ok w c)/\a.Pairwise NT.mF
def sD.kj(w:Z)(a:R):sD w a []:=⟨[],rfl,ar,List.Pairwise.nil⟩
def sD.bZ(h:sD a b l):∀t∈l,B9 a b t:=by
 obtain⟨f,rfl,c,_⟩:=h;intro t e;obtain⟨p,d,rfl⟩:=cC.1 e;exact(c p d).zeb
def sD.aA{w w':Z}(h:sD w c v)(j:I aC w w'):sD w' c v:=by
 let⟨k,a,d,e⟩:=h;exact⟨k,a,λp g=>(d p g).aA j<|λ_ _ m=>m,e⟩
def sD.dN(h:sD a b l)(n:I W a e)(k:∀p,W p->∃c T d,a.heap[p]?=M (aK c T d)/\T≠323/\T≠383/\T≠5):sD e b l:=by
 let⟨o,f,g,j⟩:=h;exact⟨o,f,λq m=>Xg.dN (g q m) n k,j⟩
def sD.pO{c base':R}(h:sD a c l)(g:base'<=c):sD a base' l:=by
 let⟨j,d,e,f⟩:=h;exact⟨j,d,λp i=>(e p i).pO g,f⟩
def IN{a:cy NT}{q:NT}(h:a.Pairwise NT.mF)(b:∀p∈a,p.mF q):(a++[q]).Pairwise NT.mF:=by
 rw[eH];grind
def JB(v:ae):∀(n:R)(a:iF)(i:R)(b:i<y a),(qm v n a)[i]?=M (By v (n+y (a.take i).flatten)<|y a[i])
 |_,[],_,b=>aI
 |n,p::a,0,_=>by simp[qm]
 |n,p::a,i+1,b=>by
  rw[qm,qV,JB v (n+y p) a i<|dV b];grind
def Vt(h:lF a d i)(f:O.flatten=i)(e:b<y O)(c:O[b]≠[]):lF a (By d (0+y (O.take b).flatten)<|y O[b]) O[b]:=by
 rw[ez];refine CY (s:=(O.drop<|b+1).flatten) h ?_ c;have:O=O.take b++O[b]::O.drop (b+1):=by rw[<-dm e,du]
 rw[<-f];grind
def yD:(prog.info? 235).map (λi=>(i.zero,i.size,i.bytes))=M (M<|ee dE,1,8):=aH
structure Mk where
 cK:R
 ur:R
 f:R
 L:Y
def Mk.bU(m:Mk):iE:=[bw m.cK,eI m.ur,eI m.f,eI m.L]
def Mk.Ok(m:Mk):Prop:=m.cK<18446744073709551616/\m.ur<4294967296/\m.f<4294967296
def mY(a:cy Mk):iE:=a.flatMap Mk.bU
def TY:∀(a:cy Mk)(n j:R)(h:n<y a)(_:j<4),(mY a)[n*4+j]?=(Mk.bU a[n])[j]?
 |m::a,0,j,_,b=>by
  rw[mY,dR,ir (by simp[Mk.bU];omega)];simp
 |m::a,n+1,j,h,b=>by
  rw[mY,dR,fP (by simp[Mk.bU];omega)];have:=TY a n j (dV h) b;rw[mY]at this;simp only[Mk.bU,bK,eE,cF]at this|-;rw[<-this];congr 1;omega
def YK(a:cy Mk)(m:Mk):mY (a++[m])=mY a++m.bU:=by simp[mY]
def xJ(a:cy ut):R:=y<|a.filter<|λx=>x.f
def Hg(a:cy ut)(x:ut):xJ (a++[x])=xJ a+(if x.f then 1 else 0):=by
 unfold xJ;rw[mA,ai];cases h:x.f<;>simp[h]
def Hh(a:cy ut):xJ a<=y a:=gM _ _
def XY(a:cy ut)(x:ut):IH (a++[x])=IH a++[aO x.f,x.v]:=by
 induction a with
 |nil=>rfl
 |cons c r b=>simp only[dt,IH,b]
def Gz(e:Option R){l:kV}(h:tX a b e l cz d):cR bN 41 #[aJ b] a λg f=>g=aN (de #[ay 0,ay 6])/\f=a:=by
 let⟨⟨v,c,_,_⟩,_,_⟩:=h;have:=aX c 2;clear c;go_in
 go_wp2;go_ret2
 simp_all
def Li(v:Option R){E:kV}(e:cy ut)(h:tX a b v E bD d)(n:Qu a d e)(C:4<=xJ e):cR bN 41 #[aJ b] a λA w=>A=aN (de #[ay 0,ay 2])/\w=a:=by
 let⟨⟨F,m,_,_⟩,_,_⟩:=h;have:=aX m 1;have:=aX m 2;have:=n.f;have:=Hh e;obtain⟨_,B⟩|⟨x,g,s,rfl,t,i⟩:=n.bV.2;omega;have r:=ak (show∀k(c:k<y e),bA a (X x<|g+k*2)=M (aO e[k].f)fromλk c=>i _ _ (Cu e k c).1);clear m n i;go_in
 go_wp2;go_loopw [4,5] (λc k wr=>∃j:R,j<=y e/\k=ay j/\c=ay (xJ (e.take j):R)/\wr=a) (λ_ k _=>y e-(intOf k).toNat)
 exact⟨0,bQ _,z,z,z⟩
 .obtain⟨j,D,rfl,rfl,u⟩:=hrel;subst wr;by_cases f:j<y e
  .have p:=r j f;have c:=Hg (e.take j) e[j];rw[<-aG f]at c;have o:=Hh<|e.take j;have l:y (e.take j)<=y e:=by rw[dX];omega
   have:(j:Y)<(y e:Y):=U;clear l;generalize xJ (e.take j)=q at*;have:q<=1000000000:=by rw[dX]at o;omega
   have:IntKind.i64.wrap ((q:Y)+1)=(q:Y)+1:=by rw[bR];omega
   clear o;cases hl:e[j].f with
   |true=>
    rw[hl]at p c;go_wp2;go_roundw
    .exact⟨j+1,f,dM,by rw[c];simp,trivial⟩
    .simp[intOf];omega
   |false=>
    rw[hl]at p c;go_wp2;go_roundw
    .exact⟨j+1,f,dM,by rw[c];simp,trivial⟩
    .simp[intOf];omega
  .have c:j=y e:=U;subst c;rw[cQ]at*;have:(4:Y)<=(xJ e:Y):=U;go_wp2;go_ret2
   simp_all
