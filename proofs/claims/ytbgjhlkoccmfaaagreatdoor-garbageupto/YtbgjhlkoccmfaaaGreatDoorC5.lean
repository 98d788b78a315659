import Derived.BigCall
import Derived.BigGuard
import Derived.BigRegion
import Derived.CellFam
import Derived.Ground.MpProg
import Derived.Ground.NamesProg
import Derived.Lib.AppendIntMem
import Derived.Lib.Hide
import Derived.Lib.ItoaLen
import Derived.Lib.ItoaMem
import Derived.Lib.ItoaWalk
import Derived.Lib.Walk
import Derived.Shelf.Pu.Clone
import Derived.Shelf.Strconv.Itoa1
import Derived.Shelf.Strconv.Itoa2
import Derived.Test.YtbgjhlkoccmfaaaGreatDoorC4
open _root_ renaming List.length→y,Option.some→M,Array.size→G,Go.World.heap→H,Go.Value.ownBlock→cN,Go.World.cell?→bA,Go.World.setCell→cP,Go.World.alloc→dw,Bool.false→bD,Bool.true→cz,Nat→R,Int→Y,List→cy,Go.Calls→cR,Go.undef→jn,Go.Proofs.Tryz.prog→bN,Go.Value.slice→am,Go.Value.string→aw,Go.Value.bool→aO,Go.Value.pointer→ee,Go.Value.tuple→de,Go.Value.agg→ef,Go.World.frozen?→iI,Go.World.ownsRow→fE,Go.Value.nilIface→ic,Go.Act.put→ii,Nat.reduceAdd→ke,Go.RowKit.Below→gD,Bool→eN,Option.none→dE,rfl→z,Or.inl→J,Or.inr→bu
namespace Go.Proofs.YtbgjhlkoccmfaaaGreatDoor
open ChangeShapes WideShapes RowKit Proofs.Tryz List
set_option maxHeartbeats 16000000
set_option linter.all false
set_option maxRecDepth 100000
variable{a e P:Z}{b c k n T:R}{d w:ae}{f x:DK}{i:dB}{m:eD}{W:fC}{r:Y}{s:jv}{B:af}{L:ld}{O:iG}{Q:iF}{S:E}
section
open Shelf
def OY:Go.Shelf.Ren:=⟨λ|283=>243|n=>n,λ|3=>3|9=>9|4=>4|n=>n,λ|n=>n⟩
def Tryz.lays283:Go.Proofs.Lays.n283 bN OY:={mixed:=by kernel_rfl,f283:=func243.trans (cD M<|by kernel_rfl),t3:=underlying3,a3:=isAgg3,z3:=sizeOf3,v3:=zeroValue3,t4:=underlying4,a4:=isAgg4,z4:=sizeOf4,v4:=zeroValue4,t9:=underlying9,a9:=isAgg9,z9:=sizeOf9,v9:=zeroValue9}
def OX:Go.Shelf.Ren:=⟨λ|284=>244|129=>173|317=>277|318=>278|n=>n,λ|53=>104|3=>3|212=>418|0=>0|4=>4|46=>68|5=>5|9=>9|n=>n,λ|17=>2|n=>n⟩
def Tryz.lays284:Go.Proofs.LaysM.n284 bN OX:={mixed:=by kernel_rfl,f129:=func173.trans (cD M<|by kernel_rfl),f284:=func244.trans (cD M<|by kernel_rfl),f317:=func277.trans (cD M<|by kernel_rfl),f318:=func278.trans (cD M<|by kernel_rfl),t0:=underlying0,a0:=isAgg0,z0:=sizeOf0,v0:=zeroValue0,t3:=underlying3,a3:=isAgg3,z3:=sizeOf3,v3:=zeroValue3,t4:=underlying4,a4:=isAgg4,z4:=sizeOf4,v4:=zeroValue4,t5:=underlying5,a5:=isAgg5,z5:=sizeOf5,v5:=zeroValue5,t9:=underlying9,a9:=isAgg9,z9:=sizeOf9,v9:=zeroValue9,t46:=underlying68,a46:=isAgg68,z46:=sizeOf68,v46:=zeroValue68,t53:=underlying104,a53:=isAgg104,z53:=sizeOf104,v53:=zeroValue104,t212:=underlying418,a212:=isAgg418,z212:=sizeOf418,v212:=zeroValue418,g17:=by kernel_rfl,i0:=by kernel_rfl,i3:=by kernel_rfl,i4:=by kernel_rfl,i5:=by kernel_rfl,i9:=by kernel_rfl,i46:=by kernel_rfl,i53:=by kernel_rfl,i212:=by kernel_rfl,m17:=by kernel_rfl}
def OW:Go.Shelf.Ren:=⟨λ|285=>245|n=>n,λ|37=>31|53=>104|3=>3|4=>4|51=>97|9=>9|5=>5|0=>0|n=>n,λ|n=>n⟩
def Tryz.lays285:Go.Proofs.Lays.n285 bN OW:={mixed:=by kernel_rfl,f285:=func245.trans (cD M<|by kernel_rfl),t0:=underlying0,a0:=isAgg0,z0:=sizeOf0,v0:=zeroValue0,t3:=underlying3,a3:=isAgg3,z3:=sizeOf3,v3:=zeroValue3,t4:=underlying4,a4:=isAgg4,z4:=sizeOf4,v4:=zeroValue4,t5:=underlying5,a5:=isAgg5,z5:=sizeOf5,v5:=zeroValue5,t9:=underlying9,a9:=isAgg9,z9:=sizeOf9,v9:=zeroValue9,t37:=underlying31,a37:=isAgg31,z37:=sizeOf31,v37:=zeroValue31,t51:=underlying97,a51:=isAgg97,z51:=sizeOf97,v51:=zeroValue97,t53:=underlying104,a53:=isAgg104,z53:=sizeOf104,v53:=zeroValue104}
end
section
open Shelf Go.Sort
def Pow(w:Z):Prop:=Lib.TabIs bN w "internal/strconv.uint64pow10" .u64 Lib.pow10Tab
def GI:prog.globalNamed "internal/strconv.uint64pow10" =M 2:=aH
def Pow.dU{w w':Z}(h:Pow w)(a:w'.heap[2]?=w.heap[2]?):Pow w':=by
 unfold Pow Lib.TabIs World.var? at*;rw[GI]at*;grind
def Pow.lt{w:Z}(h:Pow w):2<G (H w):=by
 unfold Pow Lib.TabIs World.var? at h;rw[GI]at h;grind
def Pow.aA{S:fC}{w w':Z}(h:Pow w)(c:I S w w')(a:¬S 2):Pow w':=h.dU<|c.A _ h.lt a
def Ag(u:R):af:=⟨(Lib.decDigits u).toArray⟩
def IU(u:R)(c:u<18446744073709551616)(s:Pow a):cR bN 185 #[bw u,ay 10] a λm e=>m=aN (aw<|Ag u)/\gD (G<|H a) a e:=by
 by_cases f:u<100;(.have b:∀W,cR bN 243 #[ay u] W λm e=>m=aN (aw<|Ag u)/\e=W:=λW=>Any.internal_strconv_small Tryz.lays283 u f W;have d:(u:Y)<100:=U;(have g:IntKind.i64.wrap (u:Y)=(u:Y):=by rw[bR];omega);(go_in);(go_wp2_with(go_at_call 243;refine(b _).mono ?_;rintro m e⟨rfl,rfl⟩));go_ret;exact⟨z,Below.refl _ _⟩)
 .have l:1<=u:=U;have q:Lib.nDigits u<=20:=by have:=Lib.numDigits_eq u l c;split at this<;>omega
  have i:prog.arrayLen 385=24:=aH;have t:∀W,(Instr.sliceAt 385 (aJ<|G<|H a) dE (M<|ay (Lib.nDigits u:Y)) dE).run bN W=.ok (bX (G<|H a) 0 (Lib.nDigits u) 24) W:=λW=>by
   rw[run_sliceAt_array_h W 385 (X (G<|H a) 0) aH .i64 (Lib.nDigits u:Y) U (by rw[i];omega)];rw[i];have r:(sizeOf<|prog.elem 385).run bN W=.ok 1 W:=aH;rw[r];simp[Result.andThen,slicedAt,Lib.add_plain]
  have g:=Lib.holds_zero0 a 385 (Lib.nDigits u) U;have j:cR bN 245 #[bX (G<|H a) 0 (Lib.nDigits u) 24,bw u] (dw a<|aK Lib.zeros24 385) λm e=>
   m=aN (de #[])/\(∃(n:R)(b:Array UInt8),e=(putRow (λ(f:UInt8)=>sC (f.toNat:Y)) (dw a<|aK Lib.zeros24 385) (G<|H a) 0 b).drewN n/\∃o,Lib.FmtInv (Lib.nDigits u) u 0 o b):=by
    have:=Any.internal_strconv_formatBase10 Tryz.lays285 (G<|H a) 0 24 u (Array.replicate (Lib.nDigits u) 0) (dw a<|aK Lib.zeros24 385) g (pC▸Lib.lt_pow_nDigits u) c (by rw[pC];omega);rw[pC]at this;apply this.mono;grind
  have p:∀W,Pow W->cR bN 244 #[bw u] W λm e=>m=aN (ay<|Lib.nDigits u)/\e=W:=λW a=>Any.internal_strconv_numDigits Tryz.lays284 u l c W a;have k:=p (dw a<|aK Lib.zeros24 385)<|Lib.tabIs_alloc s _;have:(100:Y)<=(u:Y):=U;have d:=ak (show∀(n:R)(b:Array UInt8),(∃o,Lib.FmtInv (Lib.nDigits u) u 0 o b)->(convert 31 9<|bX (G<|H a) 0 (Lib.nDigits u) 24).run bN ((putRow (λ(f:UInt8)=>sC (f.toNat:Y)) (dw a<|aK Lib.zeros24 385) (G<|H a) 0 b).drewN n)=.ok (aw<|Ag u) ((putRow (λ(f:UInt8)=>sC (f.toNat:Y)) (dw a<|aK Lib.zeros24 385) (G<|H a) 0 b).drewN n)/\gD (G<|H a) a ((putRow (λ(f:UInt8)=>sC (f.toNat:Y)) (dw a<|aK Lib.zeros24 385) (G<|H a) 0 b).drewN n)from by
   rintro n b⟨o,hF⟩;constructor
   .have h:=xV (P:=bN) ((putRow (λ(f:UInt8)=>sC (f.toNat:Y)) (dw a<|aK Lib.zeros24 385) (G<|H a) 0 b).drewN n) 31 9 5 (X (G<|H a) 0) 24 (Lib.decDigits u) aH aH aH (λv r=>by
     rw[Lib.row_is_numeral hF v r,Lib.add_plain,World.cell?_drewN];exact cell?_putRow (λ(f:UInt8)=>sC (f.toNat:Y)) _ (G (H a)) 0 _ b g (by rw[hF.size,pC]) v (by rw[hF.size];rwa[Lib.decDigits_length]at r))
    rwa[Lib.decDigits_length]at h
   .let⟨v,r⟩:=Lib.fin_at a (aK Lib.zeros24 385) b n 0;rw[r];exact Lib.below_grow _ a (aq _) n v)
  unfold Lib.zeros24 at*;go_in
  go_wp2_with(first
   |(go_at_call 244;refine k.mono ?_;rintro m w⟨rfl,rfl⟩)
   |(go_at_call 245;refine j.mono ?_;rintro m x⟨rfl,n,b,rfl,hF⟩;have:=(d n b hF).1;have HB:=ak (d n b hF).2))
  go_ret;exact⟨z,HB⟩
def si(u:R)(b:u<18446744073709551616)(d:Pow a):cR bN 119 #[bw u,ay 10] a λf e=>f=aN (aw<|Ag u)/\gD (G<|H a) a e:=by
 have h:=IU u b d;go_in
 go_wp2_with(go_at_call 185;refine h.mono ?_;rintro f g⟨rfl,c⟩;have HB:=ak c)
 go_ret;exact⟨z,HB⟩
end
def SY(l:cy UInt8):R:=l.foldl (λa d=>a*10+(d.toNat-48)) 0
def Bj(u:R):SY (Lib.decDigits u)=u:=by
 induction u using Nat.strongRecOn with
 |ind u a=>
  rw[Lib.decDigits];split
  .rename_i h;unfold SY;grind[UInt8.toNat_ofNat']
  .rename_i h;have:=a (u/10) U;unfold SY at*;rw[jS,this];grind[UInt8.toNat_ofNat']
def sY:af:=⟨#[116,97,98,108,101,45]⟩
def II:af:=⟨#[108,111,103,45]⟩
def fm:af:=⟨#[115,116,97,116,101]⟩
def kF:af:=⟨#[115,116,97,116,101,46,110,101,119]⟩
def jg(u:R):af:=sY++Ag u
def gX(u:R):af:=II++Ag u
def Qm(a b:af):(a++b).data.toList=a.data.toList++b.data.toList:=ar
theorem yO{b:af}(h:B=b):B.data.toList=b.data.toList:=by rw[h]
theorem xC(u:R):(jg u).data.toList=[116,97,98,108,101,45]++Lib.decDigits u:=by unfold jg;rw[Qm];rfl
theorem AO(u:R):(gX u).data.toList=[108,111,103,45]++Lib.decDigits u:=by unfold gX;rw[Qm];rfl
def No(h:jg b=jg c):b=c:=by
 have:=yO h;rw[xC,xC,List.append_cancel_left_eq]at this;rw[<-Bj b,this,Bj]
def FZ(u v:R):jg u≠gX v:=by
 grind[yO,xC,AO]
def ux(u:R):jg u≠fm:=by
 intro h;have:=yO h;rw[xC]at this;simp[fm]at this
def By(u:R):jg u≠kF:=by
 intro h;have:=yO h;rw[xC]at this;simp[kF]at this
def sa(u:R):gX u≠fm:=by
 intro h;have:=yO h;rw[AO]at this;simp[fm]at this
def yB(u:R):gX u≠kF:=by
 intro h;have:=yO h;rw[AO]at this;simp[kF]at this
def uN(u:R)(h:u<18446744073709551616):(Ag u).size<=20:=by
 have a:(Ag u).size=y (Lib.decDigits u):=by simp[Ag,ByteArray.size]
 rw[a,Lib.decDigits_length];exact Lib.nDigits_le20 u h
def Dy(u:R)(b:u<18446744073709551616)(d:Pow a):cR bN 181 #[bw u] a λf e=>f=aN (aw<|jg u)/\gD (G<|H a) a e:=by
 have h:=si u b d;have:=uN u b;clear d;go_in
 go_wp2_with(go_at_call 119;refine h.mono ?_;rintro f g⟨rfl,c⟩;have HB:=ak c;clear c)
 go_ret;exact⟨z,HB⟩
def AN(u:R)(a:u<18446744073709551616){w:Z}(c:Pow w):cR bN 69 #[bw u] w λe w'=>e=aN (aw<|gX u)/\gD (G<|H w) w w':=by
 have h:=si u a c;have:=uN u a;clear c;go_in
 go_wp2_with(go_at_call 119;refine h.mono ?_;rintro e d⟨rfl,b⟩;have HB:=ak b;clear b)
 go_ret;exact⟨z,HB⟩
def FP{f e g:Y}(h:mR a b (ee dE) r f e g c k n d L):cR bN 200 #[aJ b] a λj i=>j=aN (aO bD)/\i=a:=by
 have:=aX h.g 0;clear h;go_in
 go_wp2;go_ret;simp_all
def Eu(j:Addr){f e g:Y}(h:mR a b (ee<|M j) r f e g c k n d L):cR bN 200 #[aJ b] a λl i=>l=aN (aO cz)/\i=a:=by
 have:=aX h.g 0;clear h;go_in
 go_wp2;go_ret;simp_all
def GZ(a c b d:Y):ae:=ef #[bw a,eI c,eI b,eI d]
def Lc{c:Func}{p:Tmp}(h:c.results=#[.cell p 234])(a:Array ae)(w:Z)(g:R)(e f i j:Y)(t:TypeId)(d:R×R)(m:a.getD p jn=aJ g)(k:w.heap[g]?=M (aK #[bw e,eI f,eI i,eI j] t d)):(results c a).run bN w=.ok (GZ e f i j) w:=by
 have b:a[p]?.getD jn=aJ g:=dV m;have l:=kQ (P:=bN) w g t 234 #[bw e,eI f,eI i,eI j] d _ k underlying234 z aH;simp[results,h,b,asAddr,l,GZ]
def YL{f e g:Y}(h:mR a b d r f e g c k n w L):cR bN 259 #[aJ b] a λj i=>j=aN (GZ r f e g)/\gD (G<|H a) a i:=by
 have:=aX h.g 1;have:=aX h.g 2;have:=aX h.g 3;have:=aX h.g 4;have:=az h.g;clear h;go_in
 go_wp2;exact ci (Lc z _ _ (G<|H a) r f e g _ _ z<|aQ _ z) z ⟨z,(Below.refl _ a).alloc (aq _) _⟩
theorem zB(l:R)(n:ae)(u:R)(e:u<18446744073709551616)(f c i:Y)(m d b:R)(g:ae)(p:ld)(h:mR a l n u f c i m d b g p)(k:Pow a):cR bN 128 #[aJ l] a λr q=>r=aN (aw<|jg u)/\gD (G<|H a) a q:=by
 have:=aX h.g 1;have o:=Dy u e k;clear h k;go_in
 go_wp2_with(go_at_call 181;refine o.mono ?_;rintro r s⟨rfl,j⟩;have HB:=ak j;clear j)
 go_ret;exact⟨z,HB⟩
def WR{p j v:Y}(q g AZ d:R)(m:pw)(h:mR a b (ee dE) r p j v c k n (bX q g AZ d) L)(x:m.p+m.D<=AZ)(F:AZ<=d)(A:0<m.D)(K:AZ<=1000000000000):cR bN 346 #[aJ b,m.t] a λE D=>E=aN (de #[bX q (g+m.p) m.D (d-m.p:R),ic])/\gD (G<|H a) a D:=by
 let⟨pos,e,f,first,i⟩:=m;simp only at x A;unfold pw.t;simp only;have t:=az h.g;have l:gD (G<|H a) a (dw a<|aK #[ay pos,ay e,ay f,aw first,aw i] 383):=(Below.refl _ a).alloc (aq _) _;have u:=FP<|h.dD l h.lt.1 h.lt.2;have:bA (dw a<|aK #[ay pos,ay e,ay f,aw first,aw i] 383) (X b 6)=M (bX q g AZ d):=by rw[rI _ _ _ t,cE h.g];rfl
 have:∀(x:eN)(a:Z),(Op.unary .not<|aO x).run bN a=.ok (aO<|!x) a:=λ_ _=>rfl;let⟨s,C⟩:∃s,pos+e=s:=⟨_,rfl⟩;have:(pos:Y)+(e:Y)=(s:Y):=U;have:IntKind.i64.wrap (s:Y)=(s:Y):=by rw[bR];omega
 have:pos<s:=U;have:s<=AZ:=U;have o:=ak (show e=s-pos by omega);clear h C;go_in
 go_wp2_with(go_at_call 200;refine u.mono ?_;rintro E N⟨rfl,rfl⟩)
 go_quiet(fail)
 go_wp2;go_ret2
 have w:=ag o;have B:=l;subst w;exact⟨z,below_drewN B _⟩
def zN(h:b<18446744073709551616):Nm (jg b):=by
 have:=uN b h;have:sY.size<=100:=cg;unfold Nm jg;rw[jU];omega
def wL(h:b<18446744073709551616):Nm (gX b):=by
 have:=uN b h;have:II.size<=100:=cg;unfold Nm gX;rw[jU];omega
def Si:Nm kF:=by unfold Nm;decide
def tQ:Nm fm:=by unfold Nm;decide
def I.df{a b c:Z}(h:I W a b)(j:(c.os,c.tape,c.output,c.heap)=(b.os,b.tape,b.output,b.heap)):I W a c:=by
 let⟨e,g,i,d⟩:c.os=b.os/\c.tape=b.tape/\c.output=b.output/\c.heap=b.heap:=dV j;exact⟨e.trans h.os,g.trans h.l,i.trans h.f,d▸h.D,λk b j=>d▸h.A k b j⟩
def cf(S:fC)(w:Z):I S w w.drew:=⟨rfl,rfl,rfl,aq _,λ_ _ _=>rfl⟩
def gP(S:fC)(w:Z)(q:R):I S w (w.drewN q):=⟨rfl,rfl,rfl,aq _,λ_ _ _=>rfl⟩
def cJ.YF(h:cJ a b f){k:Array ae}{t:TypeId}{l:R×R}(e:a.heap[c]?=M (aK k t l))(n:t≠89)(q:t≠135)(r:t≠154)(o:t≠93)(s:t≠5):¬f.j b c:=by
 rintro(rfl|rfl|rfl|g|⟨x,p,g⟩|⟨u,j,rfl|g⟩);exact lk e h.S n z;exact h.l.qd e z;exact h.D.qd e z;let⟨d,i⟩:=gh h.o g;grind
 let⟨d,m,i⟩:=(h.bZ x p).2.2 c g;grind
 exact lk e (h.dq j).1 o z;let⟨d,i⟩:=gh (h.dq j).2.1 g;grind
def BgP(w a:Z)(c u:R)(K:DK)(pos n:R)(f:Ending):Prop:=∃b,pT w a c K b/\wS K b/\(∀k,b.j c k->K.j c k)/\((∃d F,ij K.ah (jg u)=M F/\f=aN (de #[d,ic])/\Bytes a d ((F.bB.drop pos).take n)/\∀k,cN d=M k->k<G (H a))\/∃q e,f=aN (de #[aF,eW q])/\rE a q e/\1<=e)
def WT(D:k<18446744073709551616){u av:Y}{A m:R}(bb:pw)(h:mR a b (aJ c) k r u av n A m d L)(hd:cJ a c f)(h3:bb.D<=1000000)(hp:Pow a):cR bN 346 #[aJ b,bb.t] a λax o=>BgP a o c k f bb.p bb.D ax:=by
 let⟨pos,e,j,first,v⟩:=bb;simp only at h3;unfold pw.t;simp only;have bg:=az h.g;have l:gD (G<|H a) a (dw a<|aK #[ay pos,ay e,ay j,aw first,aw v] 383):=(Below.refl _ a).alloc (aq _) _;have g:=h.dD l h.lt.1 h.lt.2;have ao:=Eu (X c 0) g;have bc:∀(bd:eN)(a:Z),(Op.unary .not<|aO bd).run bN a=.ok (aO<|!bd) a:=λ_ _=>rfl;have F:=aX g.g 0;let⟨i,s⟩:∃i,i=dw a (aK #[ay pos,ay e,ay j,aw first,aw v] 383):=⟨_,rfl⟩;have w:Cg i (G<|H a) ⟨pos,e,j,first,v⟩:=by rw[s];exact aQ _ z
 have ap:G (H i)=G (H a)+1:=by rw[s];simp
 have B:b<G (H i):=U;rw[<-s]at l g ao F;have ab:bA i (X (G<|H a) 0)=M (ay pos):=w.bU.1;have ac:bA i (X (G<|H a) 1)=M (ay e):=w.bU.2.1;have Q:Pow i:=hp.aA (S:=aC) (I.p l)<|λO=>O;have P:cJ i c f:=hd.aA (S:=aC) (I.p l)<|λ_ _ O=>O;have HN:=ak (show∀W,W.heap=i.heap->cR bN 128 #[aJ b] W λax o=>ax=aN (aw<|jg k)/\gD (G<|H W) W o fromλW E=>zB b (aJ c) k D r u av n A m d L ⟨by rw[E];exact g.g,λj bd e=>by rw[dZ (w:=i)<|by rw[E]];exact g.bU j bd e,g.ne,g.le,g.f⟩<|Q.dU<|by rw[E]);have ad:¬f.j c b:=hd.YF h.g cg cg cg cg cg;have K:¬f.j c (G<|H a):=λO=>bP<|hd.lt _ O
 have HR:=ak (show∀W,gD (G<|H i.drew) i.drew W->cR bN 121 #[aJ c,aw<|jg k,ay pos,ay e] W λax o=>∃v d,ax=aN (de #[v,d])/\(bA o (X b 0)=M (aJ c)/\bA o (X (G<|H a) 0)=M (ay pos)/\bA o (X (G<|H a) 1)=M (ay e))/\BgP a o c k f pos e (aN<|de #[v,d])fromλW aV=>by
  have E:I aC i W:=(cf _ i).t<|I.p (S:=aC) aV;have aU:=P.aA E<|λ_ _ O=>O;have an:pT a W c f f:=((pT.bI hd).bH<|I.p l).bH E;go_call GC (jg k) pos e aU U (zN D)as ax o⟨K',t,al,aa,hr⟩;have N:I (f.j c) i o:=(E.aT (T:=f.j c) cY).aj t.aA<|λ_ O=>J O;have V:bA o (X b 0)=M (aJ c)/\bA o (X (G<|H a) 0)=M (ay pos)/\bA o (X (G<|H a) 1)=M (ay e):=⟨N.u F ad B,N.u ab K U,N.u ac K U⟩;obtain⟨v',bl,hg,rfl,ho⟩|⟨q,O,rfl,hq⟩:=hr
  .exact⟨_,_,z,V,K',an.aj t,al,aa,J ⟨v',bl,hg,z,ho.bB,λbb a=>(fA.lt ho bb a).2⟩⟩
  .exact⟨_,_,z,V,K',an.aj t,al,aa,bu ⟨q,O,z,hq⟩⟩)
 let⟨HB,HW,HZ,bf⟩:=js l s ap w;have C:G (H a)<G (H i):=U;clear h l hd hp g Q P w ap s ad K;go_in
 go_wp2_with(go_at_call 200;rw[<-(ag HW)];refine ao.mono ?_;rintro ax w1⟨rfl,ba⟩;subst ba)
 go_region_held3(λd=>bA d (X b 0)=M (aJ c)/\bA d (X (G<|H a) 0)=M (ay pos)/\bA d (X (G<|H a) 1)=M (ay e)) (first|assumption|go_keep) (first
  |(go_at_call 128;go_loud(refine(HN w1.drew z).mono ?_;rintro ax w2⟨rfl,x⟩;have bh:bA w2 (X b 0)=M (aJ c)/\bA w2 (X (G<|H a) 0)=M (.int .i64 pos)/\bA w2 (X (G<|H a) 1)=M (.int .i64 e):=⟨(x.cell (p:=(X b 0)) B).trans (by rw[cL];exact F),(x.cell (p:=(X (G<|H a) 0)) C).trans (by rw[cL];exact ab),(x.cell (p:=(X (G<|H a) 1)) C).trans (by rw[cL];exact ac)⟩;have aD:=ak x))
  |(go_at_call 121;go_loud(refine(HR w2 aD).mono ?_;rintro ax w3⟨rv,bk,rfl,bi,r1⟩;have R1:=ak r1)))
 go_wp2;go_ret2
 exact R1
def gF(a:iG):eD:=(a.map<|λc=>ik<|iH c).flatten
theorem iB(a:eD):y (ik a)=y a+4:=by simp[ik,dh]
theorem qU(c:dB)(a:iG):gF (c::a)=ik (iH c)++gF a:=by simp[gF]
theorem Mm(b a:iG):gF (b++a)=gF b++gF a:=by simp[gF]
def EQ(a:iG)(i:R)(h:i<y a):gF a=gF (a.take i)++(ik (iH a[i])++gF (a.drop<|i+1)):=by
 grind[take_append_drop,drop_eq_getElem_cons,Mm,qU]
def SZ(a:iG)(b:eD)(i:R)(h:i<y a):((gF a++b).drop<|y<|gF<|a.take i).take (y (iH a[i])+4)=ik (iH a[i]):=by
 rw[EQ a i h,cw,pz,cw,<-iB,rN]
def Uh(a:iG)(i:R)(h:i<y a):y (gF<|a.take i)+(y (iH a[i])+4)<=y (gF a):=by
 rw[EQ a i h];simp[iB]
structure To(ks:ld)(cs:iG):Prop where
 dL:y ks=y cs
 ne:0<y cs
 l:∀i(hi:i<y ks)(hc:i<y cs),ks[i].Of cs[i]
 p:∀i(hi:i<y ks),ks[i].p=y (gF<|cs.take i)
 S:∀c∈cs,∀x∈c,x.Good
 o:gG cs.flatten
 L:cs.Pairwise lJ
 f:∀c∈cs,y c<=1000
structure vQ(ks:ld)(cs:iG):Prop where
 dL:y ks=y cs
 ne:0<y cs
 l:∀i(hi:i<y ks)(hc:i<y cs),ks[i].Fl cs[i]
 S:∀c∈cs,∀x∈c,x.Good
 o:gG cs.flatten
 L:cs.Pairwise lJ
 f:∀c∈cs,y c<=1000
def To.zy(h:To L O):vQ L O:=⟨h.dL,h.ne,λi b a=>⟨(h.l i b a).ne,(h.l i b a).eJ,(h.l i b a).eP⟩,h.S,h.o,h.L,h.f⟩
def Bytes.bM{V:jv}{n0:R}{S:fC}(h:Bytes a d m)(j:la V n0 S a e)(l:∀k,cN d=M k->k<n0/\¬V.F k):Bytes e d m:=by
 obtain⟨rfl,rfl⟩|⟨n,b,c,rfl,f,g⟩:=h;exact J ⟨z,z⟩;exact bu ⟨n,b,c,z,f,λk i=>j.u (bu<|l n z)<|g k i⟩
def Mj(i:Prop)(b:R)(a:DK)(F:fC):jv where
 Xp:=i
 D W:=(∀k,F k->k<G (H W))/\∃K,cJ W b K/\wS a K/\(∀k,K.j b k->F k)/\Fx a.fx K.fx
 F:=F
 l:=by
  rintro w m S⟨d,K,e,f,g,h⟩c j;exact⟨λk a=>au (d k a) c.D,K,e.aA c aI,f,g,h⟩
 lt:=by
  grind
def VX:(prog.info? 383).map (λi=>(i.zero,i.size,i.bytes))=M (M<|ef #[ay 0,ay 0,ay 0,aw ⟨#[]⟩,aw ⟨#[]⟩],5,56):=aH
def Tj(w:Z)(x a m9 u v:ae)(t:TypeId):∀j q,[x,a,m9,u,v][j]?=M q->bA (dw w<|aK #[x,a,m9,u,v] t) (((X (G<|H w) 0):Addr).add j)=M q:=by
 intro j q b;rw[dS];simp_all
def I.fV(h:fo a e d w):I (λk=>cN d=M k) a e:=I.eF h.dF<|λ_ b=>J b
def fF.aA{w w':Z}{b:R}{t:TypeId}{S:fC}(h:fF w b d t)(c:I S w w')(a:¬S b):fF w' b d t:=(c.A b (az h) a).trans h
def fK(w:Z)(b i:R)(u:ae):I (λk=>k=b) w (cP w (X b i) u):=(I.bI (λk=>k=b) w).aL b i u<|J rfl
structure nt(W:Z)(base bl bd bp bk bf bt:R)(lv dv pv kv:ae)(fr to:R)(ds ps:eD)(ks:ld):Prop where
 l:fF W bl lv 103
 d:fF W bd dv 31
 p:fF W bp pv 31
 k:fF W bk kv 319
 f:fF W bf (ay fr) 3
 t:fF W bt (ay to) 3
 od:fA W base dv ds
 op:fA W base pv ps
 ok:fE W base 383 5 kv (y ks) (fM ks)
 ne:∀x,cN dv=M x->cN pv≠M x
 o:bl<bd/\bd<bp/\bp<bk/\bk<bf/\bf<bt/\bt<base
 D:base<=G (H W)
def Ip(a:ld)(k:pw):fM (a++[k])=fM a++k.bU:=by simp[fM]
def nt.mQ{g n j o bk l p:R}{i f:ae}{q:eD}(h:nt a g n j o bk l p d w i f b c m q L)(r:k<g):¬(cN w=M k)/\¬(cN i=M k)/\¬(cN f=M k):=⟨λe=>bP<|(h.od.lt k e).1,λe=>bP<|(h.op.lt k e).1,λe=>bP<|(aS h.ok k e).1⟩
theorem kZ{i:R}(h:fE a b c k d n Q)(f:T<b):fE (cP a (X T i) w) b c k d n Q:=(fK a T i w).aZ h<|λg e j=>bP<|(aS h g e).1
def nt.kd{s l j n bk k o:R}{i g:ae}{t:eD}(h:nt a s l j n bk k o d w i g b c m t L):(∀x,cN g=M x->cN w≠M x)/\(∀x,cN g=M x->cN i≠M x):=by
 constructor;intro x p e;let⟨c1,q⟩:=gh h.ok p;let⟨c2,r⟩:=gh h.od e;grind
 intro x p e;let⟨c1,q⟩:=gh h.ok p;let⟨c2,r⟩:=gh h.op e;grind
def nt.TR{k o m i bk n p:R}{l r f:ae}{q x ps1:eD}(h:nt a k o m i bk n p d w l r b c q x L)(g:I (λC=>cN l=M C) a e)(v:cN f=cN l\/∃t,cN f=M t/\G (H a)<=t)(u:fA e k f ps1):nt (cP e (X i 0) f) k o m i bk n p d w f r b c q ps1 L:=by
 have D:=h.o;refine⟨(h.l.aA g (h.mQ U).2.1).dN _ U,(h.d.aA g (h.mQ U).2.1).dN _ U,(h.p.aA g (h.mQ U).2.1).gu _,(h.k.aA g (h.mQ U).2.1).dN _ U,(h.f.aA g (h.mQ U).2.1).dN _ U,(h.t.aA g (h.mQ U).2.1).dN _ U,kZ (g.aZ h.od h.ne) U,kZ u U,kZ (g.aZ h.ok h.kd.2) U,λE A j=>?_,D,by rw[gK];exact aR h.D g.D⟩;obtain s|⟨t,s,B⟩:=v;exact h.ne E A<|s▸j;rw[s]at j;cases j;have:=(h.od.lt _ A).2;omega
def nt.r8{j n k o bk l p:R}{t r g:ae}{s:eD}{x ks1:ld}(h:nt a j n k o bk l p d w t r b c m s x)(f:I (λq=>cN r=M q) a e)(v:fE e j 383 5 g (y ks1) (fM ks1)):nt (cP e (X bk 0) g) j n k o bk l p d w t g b c m s ks1:=by
 have A:=h.o;exact⟨(h.l.aA f (h.mQ U).2.2).dN _ U,(h.d.aA f (h.mQ U).2.2).dN _ U,(h.p.aA f (h.mQ U).2.2).dN _ U,(h.k.aA f (h.mQ U).2.2).gu _,(h.f.aA f (h.mQ U).2.2).dN _ U,(h.t.aA f (h.mQ U).2.2).dN _ U,kZ (f.aZ h.od<|λq u i=>h.kd.1 q i u) U,kZ (f.aZ h.op<|λq u i=>h.kd.2 q i u) U,kZ v U,h.ne,A,by rw[gK];exact aR h.D f.D⟩
def nt.A{l n k o bk m p:R}{t r g:ae}{v ds1 s:eD}(h:nt a l n k o bk m p d w t r b c v s L)(i:I (λC=>cN w=M C) a e)(B:cN g=cN w\/∃x,cN g=M x/\G (H a)<=x)(A:fA e l g ds1):nt (cP e (X k 0) g) l n k o bk m p d g t r b c ds1 s L:=by
 have E:=h.o;refine⟨(h.l.aA i (h.mQ U).1).dN _ U,(h.d.aA i (h.mQ U).1).gu _,(h.p.aA i (h.mQ U).1).dN _ U,(h.k.aA i (h.mQ U).1).dN _ U,(h.f.aA i (h.mQ U).1).dN _ U,(h.t.aA i (h.mQ U).1).dN _ U,kZ A U,kZ (i.aZ h.op<|λC q j=>h.ne C j q) U,kZ (i.aZ h.ok h.kd.1) U,λK q j=>?_,E,by rw[gK];exact aR h.D i.D⟩;obtain u|⟨x,u,D⟩:=B;exact h.ne K (u▸q) j;rw[u]at q;cases q;have:=(h.op.lt _ j).2;omega
def nt.Hx{o i g f bk e j:R}{l r n:ae}{p:eD}(h:nt a o i g f bk e j d l r n b k m p L):nt (cP (cP a (X f 0) aF) (X e 0)<|ay k) o i g f bk e j d l aF n k k m [] L:=by
 have u:=h.o;exact⟨(h.l.dN _ U).dN _ U,(h.d.dN _ U).dN _ U,(h.p.gu _).dN _ U,(h.k.dN _ U).dN _ U,(h.f.dN _ U).gu _,(h.t.dN _ U).dN _ U,kZ (kZ h.od U) U,fA.km _ _,kZ (kZ h.ok U) U,(λx _ t=>by cases t),u,by rw[gK,gK];exact h.D⟩
def nt.zeh{l i g f bk e j:R}{o k:ae}{n:eD}(h:nt a l i g f bk e j d w o k b c m n L):nt (cP (cP a (X e 0)<|ay c) (X f 0) aF) l i g f bk e j d w aF k c c m [] L:=by
 have q:=h.o;exact⟨(h.l.dN _ U).dN _ U,(h.d.dN _ U).dN _ U,(h.p.dN _ U).gu _,(h.k.dN _ U).dN _ U,(h.f.gu _).dN _ U,(h.t.dN _ U).dN _ U,kZ (kZ h.od U) U,fA.km _ _,kZ (kZ h.ok U) U,(λx _ p=>by cases p),q,by rw[gK,gK];exact h.D⟩
def nt.at{s n g o bk j e:R}{q u r:ae}{t:eD}(h:nt a s n g o bk j e d q u r c k m t L)(v:R):nt (cP a (X e 0)<|ay v) s n g o bk j e d q u r c v m t L:=by
 have x:=h.o;exact⟨h.l.dN _ U,h.d.dN _ U,h.p.dN _ U,h.k.dN _ U,h.f.dN _ U,h.t.gu _,kZ h.od U,kZ h.op U,kZ h.ok U,h.ne,x,by rw[gK];exact h.D⟩
def wR(a b:R)(c e d:ae)(x:R):Prop:=(a<=x/\x<=b)\/cN c=M x\/cN e=M x\/cN d=M x
def nt.da{o e k n bk l g:R}{j i:ae}{p:eD}(h:nt a o e k n bk l g d w j i b c m p L):∀x,wR e g w j i x->e<=x:=by
 have:=h.o;rintro x(⟨f,_⟩|f|f|f);exact f;have:=(h.od.lt x f).1;omega;have:=(h.op.lt x f).1;omega;have:=(aS h.ok x f).1;omega
def nt.aA{W w':Z}{s j e n bk g o:R}{q u r:ae}{t:eD}(h:nt W s j e n bk g o d q u r c k m t L)(a:I aC W w'):nt w' s j e n bk g o d q u r c k m t L:=⟨h.l.aA a id,h.d.aA a id,h.p.aA a id,h.k.aA a id,h.f.aA a id,h.t.aA a id,a.aZ h.od<|λ_ _ p=>p,a.aZ h.op<|λ_ _ p=>p,a.aZ h.ok<|λ_ _ p=>p,h.ne,h.o,aR h.D a.D⟩
def nt.XA{s j p r bk q l:R}{o n:ae}{t:eD}(h:nt a s j p r bk q l d w o n b c m t L)(f:I W a e)(g:∀k,wR j l w o n k->¬W k):nt e s j p r bk q l d w o n b c m t L:=by
 have:=h.o;exact⟨h.l.aA f<|g _<|J ⟨U,U⟩,h.d.aA f<|g _<|J ⟨U,U⟩,h.p.aA f<|g _<|J ⟨U,U⟩,h.k.aA f<|g _<|J ⟨U,U⟩,h.f.aA f<|g _<|J ⟨U,U⟩,h.t.aA f<|g _<|J ⟨U,U⟩,f.aZ h.od<|λk i=>g k<|bu<|J i,f.aZ h.op<|λk i=>g k<|bu<|bu<|J i,f.aZ h.ok<|λk i=>g k<|bu<|bu<|bu i,h.ne,h.o,aR h.D f.D⟩
def nt.xR{o f k n bk l g:R}{j i:ae}{p:eD}(h:nt a o f k n bk l g d w j i b c m p L):∀x,wR f g w j i x->x<G (H a):=by
 have:=h.o;have:=h.D;rintro x(⟨_,e⟩|e|e|e);omega;exact(h.od.lt x e).2;exact(h.op.lt x e).2;exact(aS h.ok x e).2
def I.da(h:I W a e)(g:∀x,W x->b<=x)(i:c<b)(f:bA a (X c k)=M d):bA e (X c k)=M d:=h.u f aI<|cA a (X c k) f
def lO{P:Program}{w:Oper}{v:Act}{aa:Act->Z->Prop}{an:Exit->Act->Z->Prop}(ad al:Operand)(x:TypeId)(n:w.op=Op.call {callee:=Callee.builtin Builtin.append,args:=#[ad,al],argTypes:=#[x,x]})(k:R)(s:TypeId)(t:TypeInfo)(m9:ae)(b bytes:R)(S:P.underlying x=M (.slice s))(L:P.info? s=M t)(W:t.zero=M m9)(g:t.size=b)(m:t.bytes=bytes)(p:m9.cells.size=b)(o:0<b)(B:ae)(u:R)(q:iF)(Q:v.eval ad=B)(h:fE a k s b B u q)(l:Addr)(r ab:R)(c:iF)(V:v.eval al=am (M l) r ab)(N:y c=r*b)(f:∀ac A,c[ac]?=M A->bA a (l.add ac)=M A)(C:∀A∈c,A.oneCell'=cz)(hn:u+r<=140737488355328)(d:(u+r)*bytes<=140737488355328)(e:k<=G (H a))(K:∀i j,fE j k s b i (u+r) (q++c)->fo a j B i->aa (v.put w.dst i) j):Oper.wp P w v a aa an:=by
 let⟨i,j,O,D,E,_,F⟩:=oX (P:=P) a k x w.type s t m9 b bytes S L W g m p o B u q h l r ab c N f C (by unfold maxLen;omega) d e;unfold Oper.wp;simp[execOp,n,resolve,invoke,builtin,Q,V,O,Result.andThen];exact K i j D<|fo.of E F
def vP(h:Bytes a (bX b c k n) m):∀j u,(m.map<|Value.int .u8)[j]?=M u->bA a (((X b c):Addr).add j)=M u:=by
 intro j u i;rw[dS];obtain⟨h,_⟩|⟨f,e,d,h,_,g⟩:=h;cases h;grind
def M5{W s t n bk C o:R}(aa e p bg:R){kv:ae}(t1:R){g:eD}(P Q:af)(h:nt a W s t n bk C o (bX aa e bg p) d w kv b c m g L)(hT:Steps a)(hg:aa<s)(c0:bA a (X aa<|e+b*4)=M (aw P))(c1:bA a (X aa<|e+t1*4)=M (aw Q))(ds:b<bg)(eb:t1<bg)(co:c=t1+1)(dv:b<=t1)(hL:bg<=1000000000)(dr:y m<=100000000000)(ea:y g<=100000)(dx:y L<=1000000000):cR bN 252 #[aJ n,aJ bk,aJ t,aJ o,aJ C,aJ s] a λcT w'=>
 cT=aN (de #[])/\(∃ab ao,nt w' W s t n bk C o (bX aa e bg p) ab aF ao c c (m++ik g) [] (L++[⟨y m,y g+4,c-b,P,Q⟩])/\(∀B,cN ab=M B->cN d=M B\/G (H a)<=B)/\(∀B,cN ao=M B->cN kv=M B\/G (H a)<=B))/\I (wR s o d w kv) a w':=by
 let⟨i0,cj,cu,cv,cx⟩:=cZ VX
 let⟨j0,ck,cp,cr,cs⟩:=cZ pN
 have db:=h.o
 have cn:=h.D
 have bt:=Gr hT h.op cn U
 let⟨F,E,ce⟩:=aM h.od
 obtain⟨N,K,cm⟩:=aM h.ok
 subst ce
 subst cm
 have q1:=h.p.u
 have q2:=h.p.bS
 have u:=h.da
 have bh:=ak c0
 have bi:=ak c1
 let⟨MX,bd⟩:∃MX,c-b=MX:=⟨_,rfl⟩
 rw[bd]
 have e1:(c:Y)-(b:Y)=(MX:Y):=U
 have e2:(c:Y)-1=(t1:Y):=U
 have e3:IntKind.i64.wrap (MX:Y)=(MX:Y):=by rw[bR];omega
 have e4:IntKind.i64.wrap (t1:Y)=(t1:Y):=by rw[bR];omega
 have e5:(b:Y)<(bg:Y):=U
 have e6:(t1:Y)<(bg:Y):=U
 have cb:=ak (show∀r w1,fA w1 W r (g++le 4 (pu g))->fo a w1 w r->∃pb i pc,r=bX pb i (y g+4) pc/\(bA w1 (X n 0)=M w/\iI w1 (X n 0)=bD)/\nt (cP w1 (X n 0) r) W s t n bk C o (bX aa e bg p) (am F (y m) E) r (am N (y L) K) b c m (g++le 4 (pu g)) L/\I (wR s o (am F (y m) E) w<|am N (y L) K) a (cP w1 (X n 0) r)from by
  intro r w1 ac O;have q:y (g++le 4 (pu g))=y g+4:=by simp[dh]
  have S:=h.p.aA (I.fV O) (h.mQ U).2.1;have f:=h.TR (I.fV O) O.f ac;have v:=((I.fV O).aT (T:=wR s o (am F (y m) E) w<|am N (y L) K)<|λB A=>J<|bu<|bu<|J A).aL n 0 r<|J<|J ⟨U,U⟩;obtain⟨_,h0⟩|⟨pb,i,pc,h0,h1⟩:=ac.bB.fS
  .rw[h0]at q;simp at q
  grind[fF.u,fF.bS])
 clear h hT c0 c1 co bd
 go_in
 go_wp2_with(go_at_call 228;refine bt.mono ?_;rintro cT w1⟨r,rfl,ac,O⟩;obtain⟨pb,i,pc,rfl,⟨cd,ch⟩,f,v⟩:=cb r w1 ac O;have bo:=ak f;have bn:=ak v;clear f v ac O)
 have f:=ag bo
 have v:=ag bn
 clear bo bn cd ch
 generalize cP w1 (X n 0) (bX pb i (y g+4) pc)=l at*
 clear bt q1 q2
 have k0:bA l (X aa<|e+b*4)=M (aw P):=v.da u hg bh
 have k1:bA l (X aa<|e+t1*4)=M (aw Q):=v.da u hg bi
 have l1:=f.l.u
 have l2:=f.d.u
 have l3:=f.p.u
 have l4:=f.k.u
 have l5:=f.f.u
 have l6:=f.t.u
 have bp:=ak (show∀(V:Obj)D k,fE k W 383 5 D (y L+1) (fM L++[ay<|y m,ay<|(y g:Y)+4,ay MX,aw P,aw Q])->fo (dw l V).drew k (am N (y L) K) D->nt (cP k (X bk 0) D) W s t n bk C o (bX aa e bg p) (am F (y m) E) (bX pb i (y g+4) pc) D b c m (g++le 4 (pu g)) (L++[⟨y m,y g+4,MX,P,Q⟩])/\I (wR s o (am F (y m) E) w<|am N (y L) K) a (cP k (X bk 0) D)/\(bA k (X aa<|e+b*4)=M (aw P)/\bA k (X aa<|e+t1*4)=M (aw Q)/\bA k (X s 0)=M (bX aa e bg p)/\bA k (X t 0)=M (am F (y m) E)/\bA k (X n 0)=M (bX pb i (y g+4:R) pc)/\bA k (X C 0)=M (ay b)/\bA k (X o 0)=M (ay c))/\bA k (X bk 0)=M (am N (y L) K)/\(bA (cP k (X bk 0) D) (X aa<|e+b*4)=M (aw P)/\bA (cP k (X bk 0) D) (X aa<|e+t1*4)=M (aw Q)/\bA (cP k (X bk 0) D) (X s 0)=M (bX aa e bg p)/\bA (cP k (X bk 0) D) (X t 0)=M (am F (y m) E)/\bA (cP k (X bk 0) D) (X n 0)=M (bX pb i (y g+4:R) pc)/\bA (cP k (X bk 0) D) (X C 0)=M (ay b)/\bA (cP k (X bk 0) D) (X o 0)=M (ay c))/\iI k (X bk 0)=bD/\(∀B,cN D=M B->cN (am N (y L) K)=M B\/G (H a)<=B)from by
  intro V D k ad an;have q:I (λB=>cN (am N (y L) K)=M B) l k:=(((I.bI _ l).aE V).aj (cf _ _)<|λB A=>J A).aj (I.fV an)<|λB A=>J A;have S:=f.k.aA q (f.mQ U).2.2;have j:=f.r8 (ks1:=L++[⟨y m,y g+4,MX,P,Q⟩]) q (by rw[Ip,ai];exact ad);have bf:∀B,cN (am N (y L) K)=M B->W<=B:=λB A=>(aS f.ok B A).1;have al:I (wR s o (am F (y m) E) w<|am N (y L) K) a (cP k (X bk 0) D):=(v.aj q<|λB A=>J<|bu<|bu<|bu A).aL bk 0 _<|J<|J ⟨U,U⟩;exact⟨j,al,⟨q.da bf U k0,q.da bf U k1,(f.l.aA q aI).u,(f.d.aA q aI).u,(f.p.aA q aI).u,(f.f.aA q aI).u,(f.t.aA q aI).u⟩,S.u,⟨al.da u hg bh,al.da u hg bi,j.l.u,j.d.u,j.p.u,j.f.u,j.t.u⟩,S.bS,λB A=>by
   obtain cT|⟨g9,cT,hy⟩:=an.f
   .grind
   .rw[cT]at A;cases A;have h1:=v.D;have h2:G (H l)<G (H (dw l V).drew):=sO;grind⟩)
 have bm:=ak f.ok
 have dc:W<=G (H l):=f.D
 have b1:aa<G (H l):=U
 have b2:s<G (H l):=U
 have b3:t<G (H l):=U
 have b4:n<G (H l):=U
 have b5:bk<G (H l):=U
 have b6:C<G (H l):=U
 have b7:o<G (H l):=U
 clear f v
 have hS:(bA l.drew (X aa<|e+b*4)=M (aw P)/\bA l.drew (X aa<|e+t1*4)=M (aw Q)/\bA l.drew (X s 0)=M (bX aa e bg p)/\bA l.drew (X t 0)=M (am F (y m) E)/\bA l.drew (X n 0)=M (bX pb i (y g+4:R) pc)/\bA l.drew (X bk 0)=M (am N (y L) K)/\bA l.drew (X C 0)=M (ay b)/\bA l.drew (X o 0)=M (ay c)):=⟨by rw[cL];exact k0,by rw[cL];exact k1,by rw[cL];exact l1,by rw[cL];exact l2,by rw[cL];exact l3,by rw[cL];exact l4,by rw[cL];exact l5,by rw[cL];exact l6⟩
 rename_i QQ KK bq
 refine cX (λV=>(bA V (X aa<|e+b*4)=M (aw P)/\bA V (X aa<|e+t1*4)=M (aw Q)/\bA V (X s 0)=M (bX aa e bg p)/\bA V (X t 0)=M (am F (y m) E)/\bA V (X n 0)=M (bX pb i (y g+4:R) pc)/\bA V (X bk 0)=M (am N (y L) K)/\bA V (X C 0)=M (ay b)/\bA V (X o 0)=M (ay c))) 22 aH ?_
 refine dH 0 ?_
 iterate 20 (refine fX hS ?_;simp only[ii,eh,ke])
 apply eS
 refine aW 20 ?_
 intro dd aV
 go_simp
 refine aV _ _ (λ_=>?_) ?_
 .exact⟨by rw[cL,gQ b1];exact k0,by rw[cL,gQ b1];exact k1,by rw[cL,gQ b2];exact l1,by rw[cL,gQ b3];exact l2,by rw[cL,gQ b4];exact l3,by rw[cL,gQ b5];exact l4,by rw[cL,gQ b6];exact l5,by rw[cL,gQ b7];exact l6⟩
 refine aW 21 ?_
 intro dk ba
 simp only[dl,cF,cO]
 refine lO (.tmp 8) (.tmp 28) 319 z W 383 i0 (ef #[ay 0,ay 0,ay 0,aw ⟨#[]⟩,aw ⟨#[]⟩]) 5 56 underlying319 cj cu cv cx z cg (am N (y L) K) (y L) (fM L) z (ku (bC bm<|aK #[ay<|y m,ay<|(y g:Y)+4,ay MX,aw P,aw Q] 383) z) (X (G<|H l) 0) 1 1 [ay<|y m,ay<|(y g:Y)+4,ay MX,aw P,aw Q] z z (Tj _ _ _ _ _ _ _) (by simp[Value.oneCell']) U U dW ?_
 intro D k ad an
 obtain⟨j,al,⟨s0,s1,s2,s3,s4,s6,s7⟩,s5,⟨z0,z1,z2,z3,z4,z6,z7⟩,bs,bc⟩:=bp _ D k ad an
 obtain⟨bx,bv,cl⟩:=aM ad
 subst cl
 refine ba _ _ aI ?_
 simp only[ii,eh]
 refine aW 22 ?_
 intro dn bb
 go_simp
 refine bb _ _ wX ?_
 refine dG aH ?_ _
 show KK _ _
 apply bq
 clear bq aV ba bb z0 z1 z2 z3 z4 z6 z7 s0 s1 s2 s3 s4 s5 s6 s7 bs ad an hS k0 k1 l1 l2 l3 l4 l5 l6 b1 b2 b3 b4 b5 b6 b7 bp bm
 have aD:=ak bc
 clear bc
 generalize cP k (X bk 0) (am bx (y L+1) bv)=W3 at*
 generalize(am bx (y L+1) bv)=cM at*
 have l2:=j.d.u
 have l3:=j.p.u
 have cB:=j.D
 have bL:=ak j.od
 have bE:=ak j.op.bB
 have dT:y (g++le 4 (pu g))=y g+4:=by simp[dh]
 have cc:=ak (show∀v4 w4,fE w4 W 5 1 v4 (y m+(y g+4)) (m.map (Value.int .u8)++(g++le 4 (pu g)).map (Value.int .u8))->fo W3 w4 (am F (y m) E) v4->(bA w4 (X t 0)=M (am F (y m) E)/\iI w4 (X t 0)=bD)/\nt (cP w4 (X t 0) v4) W s t n bk C o (bX aa e bg p) v4 (bX pb i (y g+4) pc) cM b c (m++ik g) (g++le 4 (pu g)) (L++[⟨y m,y g+4,MX,P,Q⟩])/\I (wR s o (am F (y m) E) w<|am N (y L) K) a (cP w4 (X t 0) v4)/\(∀B,cN v4=M B->cN (am F (y m) E)=M B\/G (H a)<=B)from by
  intro v4 w4 ap ax;have q:=I.fV ax;have S:=j.d.aA q (j.mQ U).1;have bf:=j.A (ds1:=m++ik g) q ax.f<|fA.of ap (by rw[ai,iB]) (by unfold ik;rw[bz,bz,bz]);exact⟨⟨S.u,S.bS⟩,bf,(al.aj q<|λB A=>J<|bu<|J A).aL t 0 _<|J<|J ⟨U,U⟩,λB A=>by
   grind[fo.f,Nat.le_trans,I.D]⟩)
 go_wp2_with(first
  |(at_builtin;go_loud(refine cq _ z (.tmp 30) (.tmp 31) 31 z W 5 j0 (.int .u8 0) 1 1 underlying31 ck cp cr cs z cg _ (y m) (m.map (Value.int .u8)) z bL (X pb i) (y g+4) pc ((g++le 4 (pu g)).map (Value.int .u8)) z aI (vP bE) (by intro ec hu;simp only[cC]at hu;obtain⟨g9,_,rfl⟩:=hu;rfl) U U cB ?_;intro v4 w4 ap ax;let⟨⟨y0,y1⟩,x,av,br⟩:=cc v4 w4 ap ax;obtain⟨x4,c4,rfl⟩:=aM ap;have aU:=ak br;have ca:=ak x;have bT:=ak av)))
 have x:=ag ca
 have av:=ag bT
 have y2:=x.p.u
 have y3:=x.p.bS
 have y4:=x.f.u
 have y5:=x.f.bS
 have y6:=x.t.u
 have n1:C≠n:=U
 have n2:o≠n:=U
 have n3:o≠C:=U
 have bl:=ak (show∀q,(q=(cP (cP (cP w4 (X t 0)<|am x4 (y m+(y g+4)) c4) (X n 0) aF) (X C 0)<|ay c).drew\/q=(cP (cP (cP w4 (X t 0)<|am x4 (y m+(y g+4)) c4) (X C 0)<|ay c) (X n 0) aF).drew)->(∃ab ao,nt q W s t n bk C o (bX aa e bg p) ab aF ao c c (m++ik g) [] (L++[⟨y m,y g+4,MX,P,Q⟩])/\(∀B,cN ab=M B->cN (am F (y m) E)=M B\/G (H a)<=B)/\(∀B,cN ao=M B->cN (am N (y L) K)=M B\/G (H a)<=B))/\I (wR s o (am F (y m) E) w<|am N (y L) K) a q from by
  rintro q(rfl|rfl)
  .exact⟨⟨_,_,x.Hx.aA<|cf _ _,aU,aD⟩,((av.aL n 0 _<|J<|J ⟨U,U⟩).aL C 0 _<|J<|J ⟨U,U⟩).aj (cf _ _)<|λB A=>J A⟩
  .exact⟨⟨_,_,x.zeh.aA (cf _ _),aU,aD⟩,((av.aL C 0 _ (J (J ⟨U,U⟩))).aL n 0 _ (J (J ⟨U,U⟩))).aj (cf _ _) (λB A=>J A)⟩)
 go_region
 all_goals
  go_end0;refine⟨z,bl _ ?_⟩;grind
def Hw(c:dB):af:=(c[0]?.map E.D).getD ⟨#[]⟩
def Pb(c:dB):af:=(c[y c-1]?.map E.D).getD ⟨#[]⟩
def Qg(p:R)(c:dB):pw:=⟨p,y (iH c)+4,y c,Hw c,Pb c⟩
def dK:R->iG->ld
 |_,[]=>[]
 |p,c::a=>Qg p c::dK (p+(y (iH c)+4)) a
def lF:∀(a:iG)(p:R),y (dK p a)=y a
 |[],_=>rfl
 |c::a,p=>by rw[dK,bK,lF a,bK]
def EV(c:dB):∀(a:iG)(p:R),dK p (a++[c])=dK p a++[Qg (p+y (gF a)) c]
 |[],p=>by simp[dK,gF]
 |d::a,p=>by
  rw[dt,dK,EV c a,dK,dt,qU,ai,iB];grind
def Ca:∀(a:iG)(p i:R)(f:i<y (dK p a))(b:i<y a),(dK p a)[i]=Qg (p+y (gF<|a.take i)) a[i]
 |[],_,i,_,b=>aI
 |c::a,p,0,_,_=>by simp[dK,gF]
 |c::a,p,i+1,f,b=>by
  have e:i<y (dK (p+(y (iH c)+4)) a):=by simpa[dK]using f
  have d:i<y a:=dV b;have h:=Ca a (p+(y (iH c)+4)) i e d;simp only[dK,cF,ui,qU,ai,iB];rw[h];grind
def JS(h:0<y i):Hw i=(i[0]'h).D:=by
 unfold Hw;rw[bF h];rfl
def Pa(h:0<y i):Pb i=(i[y i-1]'U).D:=by
 unfold Pb;rw[bF U];rfl
def r9(h:0<y i)(p:R):(Qg p i).Of i:=⟨h,rfl,rfl,JS h,Pa h⟩
def Mi:∀(c:dB),y c<=y (iH c)
 |[]=>by simp[iH]
 |x::c=>by
  have:=Mi c;unfold iH at*;rw[dR,ai,bK];have:8<=y (yJ x):=by unfold yJ;rw[ai,dh];omega
  omega
structure sw(l:dB)(cs:iG):Prop where
 p:cs.flatten=l
 f:∀c∈cs,0<y c/\y (iH c)+4<=512
 L:cs.Pairwise lJ
def sw.ub(h:sw i O)(d:i≠[])(j:∀x∈i,x.Good)(k:gG i):To (dK 0 O) O where
 dL:=lF O 0
 ne:=by
  cases O with
  |nil=>exact absurd h.p.symm<|dV d
  |cons e O=>simp
 l:=λg c a=>by
  rw[Ca O 0 g c a];exact r9 (h.f _<|aB a).1 _
 p:=λg c=>by
  have a:g<y O:=by rwa[lF]at c
  rw[Ca O 0 g c a];simp[Qg]
 S:=λe a x c=>j x (by rw[<-h.p];grind[mem_flatten])
 o:=h.p▸k
 L:=h.L
 f:=λe a=>by
  have:=(h.f e a).2;have:=Mi e;omega
def sw.xN(h:sw i O):y O<=y i:=by
 rw[<-h.p];have:=h.f;clear h;induction O with
 |nil=>simp
 |cons c O b=>
  have a:=(this c ar).1;have e:=b (λd a=>this d<|by simp[a]);grind
def sw.A(h:sw i O):y (gF O)<=512*y O:=by
 have:=h.f;clear h;induction O with
 |nil=>simp[gF]
 |cons c O b=>
  have a:=(this c ar).2;have e:=b (λd a=>this d<|by simp[a]);rw[qU,ai,iB,bK];omega
def uB(k:pw):eD:=le 4 k.D++(le 4 k.A++(iN k.eJ++iN k.eP))
def iE(a:ld):eD:=le 4 (y a)++a.flatMap uB
structure Kt(w0 w:Z)(x:R)(k:pw)(o:ae)(bs:eD):Prop where
 aZ:fA w (G<|H w0) o bs
 g:Cg w x k
 ne:cN o≠M x
 aA:I aC w0 w
def Kt.lB{l:pw}{c:eD}(h:Kt a e b l d m)(g:fo e P d w)(i:fA P (G<|H a) w c):Kt a P b l w c:=by
 have:=az h.g;refine⟨i,h.g.aA (I.eF (S:=λj=>cN d=M j) g.dF<|λ_ f=>J f) h.ne,λf=>?_,h.aA.aj (I.eF (S:=λj=>cN d=M j) g.dF<|λ_ f=>J f)<|λj f=>bu (h.aZ.lt j f).1⟩;obtain k|⟨n,k,o⟩:=g.f;exact h.ne<|k.symm.trans f;grind
def Kt.D{a w:Z}{k:pw}{bs:eD}(h:Kt a w c k d bs):G (H a)<=G (H w):=h.aA.D
structure pw.Fits(k:pw):Prop where
 D:k.D<=1000000
 A:k.A<=1000000
 eJ:k.eJ.size<=255
 eP:k.eP.size<=255
def Pp{k:pw}(h:k.Fits):y (uB k)<=520:=by
 have:=h.eJ;have:=h.eP;simp[uB,iN,dh,ix];omega
def BV{ks:ld}(h:∀k∈ks,k.Fits):y (ks.flatMap uB)<=520*y ks:=by
 induction ks with
 |nil=>simp
 |cons k ks b=>
  have:=Pp<|h k ar;have:=b (λj a=>h j<|by simp[a]);rw[dR,ai,bK];omega
def vr{n:Y}(a:0<=n)(b:n<4294967296):IntKind.u32.wrap n=n:=by rw[IntKind.wrap_u32];omega
def Ll(a:ld)(q e g:R)(w:Z)(hb:q<G (H w))(hc:∀u ac,(fM a)[u]?=M ac->bA w (X q<|e+u)=M ac)(hl:y a<=1000000)(o:∀O∈a,O.Fits):cR bN 257 #[bX q e (y a) g] w λt w'=>∃v',t=aN v'/\fA w' (G<|H w) v' (iE a)/\I aC w w':=by
 have p:=kU (n6:=G<|H w) (v:=aF) (bs:=[]) (y a:R) (w:=w) (fA.km _ _) (aq _) ar U U;have e0:=vr (n:=(y a:R)) U U;have P:=ak o;go_in
 go_wp2_with(go_at_call 227;refine p.mono ?_;rintro t w1⟨v1,rfl,k,l⟩;have v:=ak k;have x:=ak l)
 go_loopw [3,12] (λo i wr=>∃n:R,n<=y a/\i=ay n/\fA wr (G<|H w) o (le 4 (y a)++(a.take n).flatMap uB)/\I aC w wr) (λ_ i _=>y a-(intOf i).toNat)
 exact⟨0,bQ _,z,dV<|ag v,I.eF (S:=aC) x.dF (by intro O o;simp[cN]at o)⟩;obtain⟨n,hn,rfl,d,j⟩:=hrel;have ab:=j.D;by_cases i:n<y a;(.have m:∀u aa,u<5->(pw.bU a[n])[u]?=M aa->bA wr (X q<|e+n*5+u)=M aa:=λu aa b c=>j.u (by rw[bJ];exact hc _ _<|(ju a n u i b).trans c) (λd=>d) hb;have s:=P a[n]<|aB i;(have W:y (le 4 (y a)++(a.take n).flatMap uB)<=600000000:=by have h1:=BV (ks:=a.take n)<|λO o=>P O<|iy o;grind[length_append,dh]);have HS:=ak (show(le 4 (y a)++(a.take n).flatMap uB)++uB a[n]=le 4 (y a)++(a.take<|n+1).flatMap uB from by rw[cw,aG i,gS];simp);generalize a[n]=O at*;generalize le 4 (y a)++(a.take n).flatMap uB=r at*;let⟨pos,c,b,first,f⟩:=O;have p0:=m 0 _ U z;have p1:=m 1 _ U z;have p2:=m 2 _ U z;have p3:=m 3 _ U z;have p4:=m 4 _ U z;simp only[mf]at p0 p1 p2 p3 p4;have f1:=s.D;have f2:=s.A;have Q:=s.eJ;have T:=s.eP;simp only at f1 f2 Q T;have e1:=vr (n:=(c:R)) U U;have e2:=vr (n:=(b:R)) U U;have V:Kt w (dw wr<|aK #[ay pos,ay c,ay b,aw first,aw f] 383) (G<|H wr) ⟨pos,c,b,first,f⟩ u3 r:=⟨d.aE _,aQ _ z,λt=>bP<|(d.lt _ t).2,j.aE _⟩;go_wp21;refine(kU (c:R) V.aZ dW U U U).mono ?_;rintro t w1⟨v1,rfl,k,l⟩;have hA1:=V.lB l k;let⟨k0,k1,k2,k3,k4⟩:=hA1.g.bU;simp only at k0 k1 k2 k3 k4;have D:=hA1.D;go_wp21;refine(kU (b:R) hA1.aZ D (by rw[ai,dh];omega) U U).mono ?_;rintro t w2⟨v2,rfl,A,K⟩;have hA2:=hA1.lB K A;let⟨m0,m1,m2,m3,m4⟩:=hA2.g.bU;simp only at m0 m1 m2 m3 m4;have E:=hA2.D;go_wp21;refine(ri (G<|H w) v2 ((r++le 4 c)++le 4 b) first _ hA2.aZ E (by rw[ai,ai,dh,dh];omega) Q).mono ?_;rintro t w3⟨v3,rfl,B,L⟩;have hA3:=hA2.lB L B;let⟨q0,q1,q2,q3,q4⟩:=hA3.g.bU;simp only at q0 q1 q2 q3 q4;have F:=hA3.D;go_wp21;go_call ri (G<|H w) v3 (((r++le 4 c)++le 4 b)++(first.size:Y)::kp first) f _ hA3.aZ F (by grind[length_append,dh,length_cons,ix]) T as t w4⟨v4,rfl,C,N⟩;have hA4:=hA3.lB N C;go_wp2;go_roundw;refine⟨n+1,i,dM,?_,hA4.aA⟩;rw[<-ag HS];have:=hA4.aZ;simpa[uB,iN]using this;simp[intOf];omega);have b:n=y a:=U;subst b;rw[cQ]at d;go_wp2;go_ret;exact⟨_,z,d,j⟩
section
open Shelf
attribute [local go_sem] Oper.semAt_some
def Ta(a:iG)(c:dB):gF (a++[c])=gF a++ik (iH c):=by simp[gF]
def Ui{l:dB}{c a:dB}(h:l.take b=c++a)(g:b<=y l){i:R}(f:i<y a):∃e:y c+i<y l,l[y c+i]=a[i]:=by
 have:b=y c+y a:=by have:=cD y h;grind
 refine⟨U,?_⟩;have d:(l.take b)[y c+i]'dW=(c++a)[y c+i]'dW:=by simp only[h]
 rw[oY,mO U]at d;simpa using d
def Uf{L o r t bk s p:R}(E f n:R){A:ae}(q:dB)(e:iG)(c:dB)(h:nt a L o r t bk s p (bX E f (y q) n) d w A (y e.flatten) b (gF e) (iH c) (dK 0 e))(T:Steps a)(W:E<o)(V:∀ab ac,(bj q)[ab]?=M ac->bA a (X E<|f+ab)=M ac)(hcut:q.take b=e.flatten++c)(K:b<=y q)(k:0<y c)(hl:y q<=1000000)(g:∀C∈e,0<y C/\y (iH C)+4<=512)(D:y (iH c)+4<=512):cR bN 252 #[aJ t,aJ bk,aJ r,aJ p,aJ s,aJ o] a λaa B=>
 aa=aN (de #[])/\(∃l m,nt B L o r t bk s p (bX E f (y q) n) l aF m (y (e++[c]).flatten) b (gF<|e++[c]) (iH []) (dK 0<|e++[c])/\(∀x,cN l=M x->cN d=M x\/G (H a)<=x)/\(∀x,cN m=M x->cN A=M x\/G (H a)<=x))/\I (wR o p d w A) a B:=by
 have j:b=y e.flatten+y c:=by
  have:=cD y hcut;grind
 have u:y e<=y e.flatten:=by
  have:=g;clear h hcut j g;induction e with
  |nil=>simp
  |cons C e x=>
   have u:=(this C ar).1;have F:=x (λP v=>this P<|by simp[v]);grind
 have F:y (gF e)<=512*y e:=by
  have:=g;clear h hcut j g u;induction e with
  |nil=>simp[gF]
  |cons C e x=>
   have u:=(this C ar).2;have F:=x (λP v=>this P<|by simp[v]);rw[qU,ai,iB,bK];omega
 let⟨i1,Q⟩:=Ui hcut K k
 let⟨i2,S⟩:=Ui hcut K (i:=y c-1) U
 have O:=(fI q _ i1).1
 have c1:=(fI q _ i2).1
 rw[Q]at O
 rw[S]at c1
 have:=lF e 0
 refine(M5 E f n (y q) (y e.flatten+(y c-1)) (Hw c) (Pb c) h T W ?_ ?_ U U U U U U U U).mono ?_
 .rw[JS k];grind
 .rw[Pa k];exact V _ _ c1
 .rintro aa B⟨rfl,⟨l,m,hv,hx⟩,ht⟩;refine⟨z,⟨l,m,?_,hx⟩,ht⟩;have N:dK 0 (e++[c])=dK 0 e++[⟨y<|gF e,y (iH c)+4,b-y e.flatten,Hw c,Pb c⟩]:=by
   rw[EV,j,xg,ez];rfl
  rwa[(by rw[j];simp:y (e++[c]).flatten=b),N,Ta]
def fA.pQ{c base':R}(h:fA a c d m)(e:base'<=c):fA a base' d m:=fj h e
def fA.U9(h:fA a b d m)(e:0<y m):∃g c i,d=bX g c (y m) i:=by
 obtain⟨_,f⟩|⟨g,c,i,f,j⟩:=h.bB.fS;rw[f]at e;simp at e;grind
structure Jb(w:Z)(lv:ae)(p:dB)(B:fC)(W:Z):Prop where
 ex:∃cs cur dv pv kv,nt W (G (H w)+8) (G<|H w) (G (H w)+1) (G (H w)+2) (G (H w)+3) (G (H w)+4) (G (H w)+5) lv dv pv kv (y cs.flatten) (y p) (gF cs) (iH cur) (dK 0 cs)/\p=cs.flatten++cur/\(∀c∈cs,0<y c/\y (iH c)+4<=512)/\y (iH cur)+4<=512/\(cur=[]->p=[])/\(cs++[cur]).Pairwise lJ/\∀k,B k↔wR (G<|H w) (G (H w)+5) dv pv kv k
 fn:fF W (G (H w)+6) (.func (.func 252) #[] #[aJ<|G (H w)+2,aJ<|G (H w)+3,aJ<|G (H w)+1,aJ<|G (H w)+5,aJ<|G (H w)+4,aJ<|G<|H w]) 1
 aA:I aC w W
def Jb.lt{w g:Z}(h:Jb w d i W g):∀k,W k->G (H w)<=k/\k<G (H g):=by
 let⟨j,c,m,o,n,e,_,_,_,_,_,a⟩:=h.ex;exactλk c=>⟨e.da k<|(a k).1 c,e.xR k<|(a k).1 c⟩
def Jb.gR{B T:fC}(h:Jb a d i B e)(c:I T e P)(t:∀q,T q->¬B q/\G (H a)+7<=q):Jb a d i B P:=by
 let⟨f,b,g,s,r,p,j,k,l,m,n,o⟩:=h.ex;exact⟨⟨f,b,g,s,r,p.XA c aI,j,k,l,m,n,o⟩,h.fn.aA c aI,h.aA.aj c aI⟩
def TS{w W2 j w6:Z}{D h g i v6:ae}{p gg cur:dB}{cs:iG}{B:fC}(e:nt j (G (H w)+8) (G<|H w) (G (H w)+1) (G (H w)+2) (G (H w)+3) (G (H w)+4) (G (H w)+5) D h g i (y cs.flatten) (y p) (gF cs) (iH cur) (dK 0 cs))(F:fF j (G (H w)+6) (.func (.func 252) #[] #[aJ<|G (H w)+2,aJ<|G (H w)+3,aJ<|G (H w)+1,aJ<|G (H w)+5,aJ<|G (H w)+4,aJ<|G<|H w]) 1)(u:I aC w j)(C:I B W2 j)(a:∀k,wR (G<|H w) (G (H w)+5) h g i k->B k\/G (H W2)<=k)(hcut:p=cs.flatten++cur)(m:∀c∈cs,0<y c/\y (iH c)+4<=512)(s:y (iH cur)+y (iH gg)+4<=512)(n:0<y gg)(t:(cs++[cur]).Pairwise lJ)(q:lJ p gg)(K:fE w6 (G (H w)+8) 5 1 v6 (y (iH cur)+y (iH gg)) ((iH cur).map (Value.int .u8)++(iH gg).map (Value.int .u8)))(v:fo j w6 g v6):(bA w6 (X (G (H w)+2) 0)=M g/\iI w6 (X (G (H w)+2) 0)=bD)/\(bA (cP w6 (X (G (H w)+2) 0) v6) (X (G (H w)+5) 0)=M (ay<|y p)/\iI (cP w6 (X (G (H w)+2) 0) v6) (X (G (H w)+5) 0)=bD)/\∃A,Jb w D (p++gg) A (cP (cP w6 (X (G (H w)+2) 0) v6) (X (G (H w)+5) 0)<|ay ((y p+y gg:R):Y))/\I B W2 (cP (cP w6 (X (G (H w)+2) 0) v6) (X (G (H w)+5) 0)<|ay ((y p+y gg:R):Y))/\∀k,A k->B k\/G (H W2)<=k:=by
 have d:=I.fV v;have l:=e.p.aA d (e.mQ U).2.1;have f:=e.TR (ps1:=iH<|cur++gg) d v.f (fA.of K (by rw[Ae,ai])<|by rw[Ae,bz]);have b:I (wR (G<|H w) (G (H w)+5) h g i) j (cP (cP w6 (X (G (H w)+2) 0) v6) (X (G (H w)+5) 0)<|ay ((y p+y gg:R):Y)):=((d.aT (T:=wR (G<|H w) (G (H w)+5) h g i)<|λk o=>J<|bu<|bu<|J o).aL _ 0 _<|J<|J ⟨U,U⟩).aL _ 0 _<|J<|J ⟨U,U⟩;refine⟨⟨l.u,l.bS⟩,⟨f.t.u,f.t.bS⟩,wR (G<|H w) (G (H w)+5) h v6 i,⟨⟨cs,cur++gg,h,v6,i,ai▸(f.at (y p+y gg)),by rw[hcut,cw],m,by rw[Ae,ai];exact s,λc=>?_,?_,λk=>tq⟩,?_,?_⟩,C.aj b a,?_⟩;rw[gC]at c;rw[c.2]at n;simp at n;let⟨N,_,O⟩:=eH.1 t;refine eH.2 ⟨N,ar,λc E Q L=>?_⟩;rw[bY.1 L];intro P x m9 r;obtain r|r:=aP.1 r;exact O c E cur ar P x m9 r;exact q P (by rw[hcut];grind[mem_append_left,mem_flatten]) m9 r
 .exact F.aA b (by
   rintro(⟨_,c⟩|c|c|c)
   .omega
   .have:=(e.od.lt _ c).1;omega
   .have:=(λk o=>(e.op.lt k o).1:∀k,cN g=M k->G (H w)+8<=k) _ c;omega
   .have:=(aS e.ok _ c).1;omega)
 exact u.aj b<|λk o=>bu<|e.da k o;rintro k(c|c|c|c);exact a k<|J c;exact a k<|bu<|J c;obtain r|⟨P,r,x⟩:=v.f;exact a k<|bu<|bu<|J<|r▸c;rw[r]at c;cases c;exact bu<|aR C.D x;exact a k<|bu<|bu<|bu c
def GH(W b f:R)(hT:Steps a)(hg:W<G (H a))(hc:∀cv ch,(bj i)[cv]?=M ch->bA a (X W<|b+cv)=M ch)(dd:y i<=f)(dr:0<y i)(L:∀bd∈i,bd.Good)(hs:gG i)(c:∀W∈ji i,y W<=10)(hl:y i<=1000000):cR bN 193 #[bX W b (y i) f] a λaa w'=>∃dv kv q,aa=aN (de #[dv,kv])/\sw i q/\fA w' (G<|H a) dv (gF q)/\fE w' (G<|H a) 383 5 kv (y q) (fM<|dK 0 q)/\I aC a w':=by
 let⟨i0,bq,bT,ca,cb⟩:=cZ pN;have bE:=hT.lt;have cp:=CQ (bX W b (y i) f) _ _ _ z;have hE:lG a (bX W b (y i) f) i:=⟨by rw[ie],aI⟩;let⟨HT,HC,HG,ck⟩:=js hT hc L c;clear hT hc L c;refine(ew (n:=3)).1 ?_;refine callsIn_of_wp_marks func193 z trivial ?_ z;simp only[ntmps193,gp,bK,eE,ke,Nat.reduceSub,fh,fc,gq,fH,ep,dt];have cs:=wI (P:=bN) (w:=(dw (dw (dw (dw (dw (dw (dw a<|aK #[bX W b (y i) f] 103)<|aK #[aF] 31)<|aK #[aF] 31)<|aK #[aF] 319)<|aK #[ay 0] 3)<|aK #[ay 0] 3)<|aK #[.nilFunc] 1)) (b:=G (H a)+1+1+1+1+1+1) (u:=.nilFunc) (t:=1) (aQ _ ar) (.func (.func 252) #[] #[aJ<|G (H a)+1+1,aJ<|G (H a)+1+1+1,aJ<|G (H a)+1,aJ<|G (H a)+1+1+1+1+1,aJ<|G (H a)+1+1+1+1,aJ<|G<|H a]) z;gi_wp2_with(refine⟨trivial,?_⟩;gi_at_call 142;refine(ew.2<|cp _).mono ?_;rintro aa w1⟨rfl,rfl⟩)
 clear cs;let⟨W0,l⟩:∃W0,(dw (dw (dw (dw (dw (dw (dw (dw a<|aK #[bX W b (y i) f] 103)<|aK #[aF] 31)<|aK #[aF] 31)<|aK #[aF] 319)<|aK #[ay 0] 3)<|aK #[ay 0] 3)<|aK #[.func (.func 252) #[] #[aJ<|G (H a)+1+1,aJ<|G (H a)+1+1+1,aJ<|G (H a)+1,aJ<|G (H a)+1+1+1+1+1,aJ<|G (H a)+1+1+1+1,aJ<|G<|H a]] 1)<|aK #[bX W b (y i) f] 103)=W0:=⟨_,rfl⟩;have ds:G (H W0)=G (H a)+8:=by rw[<-l];simp
 have bL:I aC a W0:=l▸(((((((cI aC a).aE _).aE _).aE _).aE _).aE _).aE _).aE _;have cn:fF W0 (G (H a)+7) (bX W b (y i) f) 103:=l▸aQ _ ar;have hA0:Jb a (bX W b (y i) f) (jj []) (wR (G<|H a) (G (H a)+5) aF aF aF) W0:=by refine⟨⟨[],[],aF,aF,aF,⟨?_,?_,?_,?_,?_,?_,fA.km _ _,fA.km _ _,ct _ _ _ _,(by simp[cN]),U,U⟩,rfl,ar,by simp[iH],λ_=>rfl,ar,λn=>tq⟩,?_,bL⟩;rw[<-l];grind[fF.aE,aQ];rw[<-l];exact fF.aE (fF.aE (fF.aE (fF.aE (fF.aE (fF.aE (aQ _ ar) _) _) _) _) _) _;rw[<-l];exact fF.aE (fF.aE (fF.aE (fF.aE (fF.aE (aQ _ ar) _) _) _) _) _;rw[<-l];exact fF.aE (fF.aE (fF.aE (fF.aE (aQ _ ar) _) _) _) _;rw[<-l];exact fF.aE (fF.aE (fF.aE (aQ _ ar) _) _) _;rw[<-l];exact fF.aE (fF.aE (aQ _ ar) _) _;rw[<-l];exact fF.aE (aQ _ ar) _
 rw[l];refine tL (m:=3) (arg:=IZ<|bX W b (y i) f) (V:=CY) (n0:=G<|H a) (gf:=209) (lb:=#[aJ<|G (H a)+7]) (l:=pM 0<|ji i) (S:=λn=>n=G (H a)+7) ?geval (enters_of func209 aH z) (λ_=>rfl) (yD (G<|H a) 2 cn (hE.aA bL<|λn c=>⟨id,(show W=n by simpa[cN]using c)▸hg⟩) (λn c=>(show W=n by simpa[cN]using c)▸hg) U U) trivial U (λn c=>U) (λg bf cd=>Jb a (bX W b (y i) f) (jj g) bf cd) (λ_ _ _ _=>False) _ hA0 (λn c o=>by obtain⟨_,o⟩|o|o|o:=o<;>first|omega|(simp[cN]at o)) (λg bf cd w=>w.lt) ?st ar ?body ?done ?stop;rfl;intro g bf cd u T w j hT;refine w.gR j<|λn c=>⟨(hT n c).1,?_⟩;obtain o|o|o:=(hT n c).2;omega;exact o.elim;omega;(case stop=>grind)
 .rintro lr g⟨cc,j⟩bf cd dn bh bs N w _;let⟨hn,ea,c⟩:=LO hs.zy N;have bo:0<y j:=ja.2 c.ne;have dk:cc+y j+y ea=y i:=by rw[c.dq,hn];simp;omega
  have K:=Da hE c.dq c.ne;rw[<-hn]at K;unfold IZ;unfold Bz at K|-;simp only at K|-;have cM:y j<=10:=ck j (by let⟨_,eb,aa⟩:=AQ _ _ _ _ _ N;rw[<-aa];simp);have bn:∀bd∈j,bd.Good:=λbd a=>HG bd (by rw[c.dq];simp[a]);generalize f-cc=dT at*;let⟨HA,HK,HN⟩:=eU w c hn;clear w N c hn;gi_wp2;refine⟨I.bI _ _,λW2 bb=>?_⟩;have hA2:=HA.gR bb<|λn c=>aI;have ba:lG W2 (bX W (b+cc*4) (y j) dT) j:=K.aA hA2.aA<|λn c=>(show W=n by simpa[cN]using c)▸⟨id,hg⟩;have bv:=GG ba (λn c=>(show W=n by simpa[cN]using c)▸au hg hA2.aA.D) bn U;let⟨q,d,dv,pv,kv,hv,hcut,s,v,E,t,hB⟩:=hA2.ex;have co:0<y (iH j)/\y (iH j)<=350:=by
   have h1:=Ug bn;have O:=Mi j;omega
  let⟨px,pc,bx⟩:=aM hv.op;let⟨ce,hb⟩:∃ce,y (iH j)=ce:=⟨_,rfl⟩;let⟨cj,ha⟩:∃cj,y (iH d)=cj:=⟨_,rfl⟩;rw[hb]at co;rw[ha]at bx v;let⟨HV,HF,aU,ab,HB,an⟩:=nU hv hA2.fn hA2.aA bb hB hcut;obtain⟨ao,cx,bg,Hb,Ha,cT⟩:=nU s E t hb ha ba;clear hA2 ba K hv hcut s E t hB hb ha bb;subst bx;gi_wp2_with fail
  refine⟨trivial,(CallsIn.inRound lr<|ew.2 bv).mono ?_⟩;rintro aa B⟨b2,rfl,ad,e⟩;obtain⟨cl,D,cm,bk⟩:=ad.U9 (by rw[ag Hb];omega);rw[ag Hb]at bk;subst bk;have k:=HV.aA e;have bm:=HF.aA e id;have y5:=k.p.u;have y9:=bm.u;clear bm bv;have av:lr<G (H W2):=au bs.1 ab.D;have dc:G (H cd)<=G (H W2):=ab.D;have bt:y (jj g)=cc:=HN.symm;by_cases cB:(512:Y)<(cj:Y)+ce+4
  .have ac:0<y d:=by
    obtain o|o:=fO<|y d
    .obtain rfl:=bG o;have:=ag Ha;simp[iH]at this;omega
    .exact o
   have ap:=HK.dq;have Q:I aC a B:=aU.t e;have r:=Uf W b f i q d k (HT.dD (Q.dD (aq _) cY) bE) hg (λcv ch hj=>Q.u (HC cv ch hj) id hg) (by rwa[ap,cw,rN]) U ac hl ao<|ag Ha▸v;clear Q ap;gi_wp2_with fail
   refine⟨trivial,(CallsIn.inRound lr<|ew.2<|Gq ((cj:Y)+ce) _ U U).mono ?_⟩;rintro aa w4⟨rfl,cu⟩;subst w4;gi_wp2_with fail
   refine⟨trivial,(CallsIn.inRound lr<|ew.2 r).mono ?_⟩;rintro aa w5⟨rfl,⟨db,dx,al,bl,br⟩,O⟩;have x:∀n,wR (G<|H a) (G (H a)+5) dv (am px cj pc) kv n->bf n:=λn c=>(HB n).2 c;have bp:=HV.xR;have cr:=HV.da;have bi:fA w5 (G<|H W2) (bX cl D ce cm) (iH j):=O.aZ ad<|λn c o=>gW (bp n o)<|(ad.lt n c).1;have bc:=al.D;have:=al.p.u;have:=e.D;have t:=ag bg;have aD:=ak<|vP bi.bB;have aV:=ak (λ(v6:ae)(w6:Z)ho hw=>TS (w:=a) (w6:=w6) (v6:=v6) (p:=jj g) (cs:=q++[d]) (cur:=[]) (gg:=j) (B:=bf) (W2:=W2) al ((HF.aA e id).aA O (by
    rintro(⟨_,o⟩|o|o|o)
    .omega
    .have:=(HV.od.lt _ o).1;omega
    .have:=(HV.op.lt _ o).1;omega
    .have:=(aS HV.ok _ o).1;omega))
    ((aU.t e).aj O aI) ((e.aT cY).aj O aI)
    (by
     rintro n(o|o|o|o)
     .exact J<|x n<|J o
     .obtain aa|aa:=bl n o
      .exact J<|x n<|bu<|J aa
      grind
     .simp[cN]at o
     .obtain aa|aa:=br n o
      .exact J<|x n<|bu<|bu<|bu aa
      grind)
    (by rw[ag an];simp) (by
     grind[mem_singleton,ag])
    (by rw[ag Hb];simp[iH];omega) bo (eH.2 ⟨t,ar,λbd _ g9 a=>by rw[bY.1 a];intro _ _ m9 hz;cases hz⟩) HK.da ho hw)
   clear al bl br O x bp cr bi t r y5 y9;gi_wp2_with(first
    |(gi_at_builtin;refine gm _ z (.tmp 27) (.tmp 28) 31 z (G (H a)+8) 5 i0 (.int .u8 0) 1 1 underlying31 bq bT ca cb z cg _ 0 ((iH []).map (Value.int .u8)) z (ct _ _ _ _) (X cl D) ce cm ((iH j).map (Value.int .u8)) z (by rw[cS,ag Hb,tH]) aD (by intro ch hu;simp only[cC]at hu;obtain⟨g9,_,rfl⟩:=hu;rfl) U U bc ?_;intro v6 w6 u T;obtain⟨⟨y0,y1⟩,⟨y2,y3⟩,B2,hP,A,F⟩:=aV v6 w6 (ag Hb▸u) T;obtain⟨x6,c6,rfl⟩:=aM u;simp only[ez]at y2 y3 hP A;rw[bt]at y2;have HP:=ak hP;have C:=ak A;have ax:=ak F;clear u T hP A F))
   have e1:jj (g++[(cc,j)])=jj g++j:=vH _ _ _;have e2:((cc:Y)+y j)=((y (jj g)+y j:R):Y):=U;rw[e2];refine⟨trivial,B2,?_,(ab.aT ar).aj C aI,C.A lr av bh,λn c=>(ax n c).imp_right<|λo=>U⟩;show Jb a _ (jj<|g++[(cc,j)]) B2 _;rwa[e1]
  .have x:∀n,wR (G<|H a) (G (H a)+5) dv (am px cj pc) kv n->bf n:=λn c=>(HB n).2 c;have bc:=k.D;have aD:=ak<|vP ad.bB;have aV:=ak<|λ(v6:ae)(w6:Z)ho hw=>TS (w:=a) (w6:=w6) (v6:=v6) (p:=jj g) (cs:=q) (cur:=d) (gg:=j) (B:=bf) (W2:=W2) k (HF.aA e id) (aU.t e) (e.aT cY) aI an ao (by rw[ag Ha,ag Hb];omega) bo bg HK.da ho hw;clear x y9;gi_wp2_with fail
   refine⟨trivial,(CallsIn.inRound lr<|ew.2<|Gq ((cj:Y)+ce) _ U U).mono ?_⟩;rintro aa w4⟨rfl,cu⟩;subst w4;gi_wp2_with(first
    |(gi_at_builtin;refine gm _ z (.tmp 27) (.tmp 28) 31 z (G (H a)+8) 5 i0 (.int .u8 0) 1 1 underlying31 bq bT ca cb z cg _ cj ((iH d).map (Value.int .u8)) z (by have O:=k.op;unfold fA at O;rwa[ag Ha]at O) (X cl D) ce cm ((iH j).map (Value.int .u8)) z (by rw[cS,ag Hb,tH]) aD (by intro ch hu;simp only[cC]at hu;obtain⟨g9,_,rfl⟩:=hu;rfl) U U bc ?_;intro v6 w6 u T;let⟨⟨y0,y1⟩,⟨y2,y3⟩,B2,hP,A,F⟩:=aV v6 w6 (ag Ha▸ag Hb▸u) T;obtain⟨x6,c6,rfl⟩:=aM u;rw[bt]at y2;have HP:=ak hP;have C:=ak A;have ax:=ak F;clear u T hP A F))
   have e1:jj (g++[(cc,j)])=jj g++j:=vH _ _ _;have e2:((cc:Y)+y j)=((y (jj g)+y j:R):Y):=U;rw[e2];refine⟨trivial,B2,?_,(ab.aT ar).aj C aI,C.A lr av bh,λn c=>(ax n c).imp_right<|λo=>U⟩;show Jb a _ (jj<|g++[(cc,j)]) B2 _;rwa[e1]
 intro Q bf cd ap w C _ hK;let⟨q,d,dv,pv,kv,hv,hcut,s,v,E,t,hB⟩:=w.ex;rw[CT]at hcut E hv;(have ac:0<y d:=by grind);have r:=Uf W b f i q d hv (HT.dD (w.aA.dD (aq _) cY) bE) hg (λcv ch hj=>w.aA.u (HC cv ch hj) id hg) (cQ▸hcut) (aq _) ac hl s v;have x:¬wR (G<|H a) (G (H a)+5) dv pv kv Q:=λo=>C<|(hB Q).2 o;have HX:=ak (show∀B j u,nt B (G (H a)+8) (G<|H a) (G (H a)+1) (G (H a)+2) (G (H a)+3) (G (H a)+4) (G (H a)+5) (bX W b (y i) f) j aF u (y (q++[d]).flatten) (y i) (gF<|q++[d]) (iH []) (dK 0<|q++[d])->I (wR (G<|H a) (G (H a)+5) dv pv kv) cd B->(∀bd,cN j=M bd->cN dv=M bd\/G (H cd)<=bd)->(∀bd,cN u=M bd->cN kv=M bd\/G (H cd)<=bd)->(fA B (G<|H a) j (gF<|q++[d])/\fE B (G<|H a) 383 5 u (y<|q++[d]) (fM<|dK 0<|q++[d]))/\I aC a B/\B.heap[Q]?=M (.deferred<|M [])/\cN j≠M Q/\cN u≠M Q from by intro B j u k e hd c;have h1:=k.ok;rw[lF]at h1;have ab:=az hK;exact⟨⟨k.od.pQ U,fj h1 U⟩,w.aA.aj e<|λn c=>bu<|hv.da n c,(e.A Q ab x).trans hK,λo=>by obtain aa|aa:=hd Q o;exact x<|bu<|J aa;omega,λo=>by obtain aa|aa:=c Q o;exact x<|bu<|bu<|bu aa;omega⟩);have ad:=w.fn.u;have HP:=ak<|show sw i (q++[d])from⟨by rw[hcut];simp,λo hc=>aI,t⟩;clear w hcut s E t hB hv C x ac;generalize q++[d]=T at*;(gi_wp2_with fail);refine⟨trivial,(ew.2 r).mono ?_⟩;rintro aa B⟨rfl,⟨j,u,k,D,F⟩,e⟩;have:=k.d.u;have:=k.k.u;let⟨⟨K,N⟩,al,O,an,ao⟩:=HX B j u k e D F;obtain⟨x4,c4,rfl⟩:=aM K;obtain⟨x5,c5,rfl⟩:=aM N;have:=az O;clear k e D F ad r hK;(gi_wp2_with fail);apply Aw.2;(go_quiet(fail));gi_wp2;refine⟨ar,J ⟨_,_,z,run_takeDeferred O,?_⟩⟩;refine⟨_,jx z _ _ _,?_⟩;have A:=(gP (λn=>n=Q) B nq).aj (iC (B.drewN nq) Q<|.deferred dE)<|λ_ h=>J h;exact⟨_,_,T,z,HP,A.aZ K<|λn c o=>an<|o▸c,A.aZ N<|λn c o=>ao<|o▸c,al.aj A aI⟩
end
structure pw.Can(k:pw):Prop where
 D:k.D<=512
 c1:1<=k.A
 c2:k.A<=100
 f1:1<=k.eJ.size
 f8:k.eJ.size<=8
 l1:1<=k.eP.size
 l8:k.eP.size<=8
 le:kH k.eP k.eJ=bD
def SD:(prog.info? 383).map (λi=>(i.zero,i.size,i.bytes))=M (M<|ef #[ay 0,ay 0,ay 0,aw ⟨#[]⟩,aw ⟨#[]⟩],5,56):=aH
def WP(x c m9 u v:ae)(t:TypeId)(d:b=G (H a)):∀j q,[x,c,m9,u,v][j]?=M q->bA (dw a<|aK #[x,c,m9,u,v] t) (((X b 0):Addr).add j)=M q:=by
 intro j q e;subst d;rw[dS];simp_all
def WV(a:ld)(k:pw):fM (a++[k])=fM a++[ay k.p,ay k.D,ay k.A,aw k.eJ,aw k.eP]:=by simp[fM,pw.bU]
def FH(a b:af):(Op.bytesLess a.toList b.toList||a.toList==b.toList)=!kH b a:=by rw[<-Uc];simp
def J9(t:TypeId)(a b:af):binOp .leq t (aw a) (aw b)=pure (aO<|Op.bytesLess a.toList b.toList||a.toList==b.toList):=by simp[binOp,Op.stringOp]
def zcx(w a:Z)(k:pw)(e:Ending):Prop:=∃b,e=aN (aO b)/\(b=cz->k.Can)/\a=dw w (aK #[ay k.p,ay k.D,ay k.A,aw k.eJ,aw k.eP] 383)
def Zv(n:pw)(x:Z)(v:n.D<4294967296/\n.A<4294967296)(s:n.eJ.size<=255)(t:n.eP.size<=255):cR bN 242 #[n.t] x λr w=>zcx x w n r:=by
 let⟨pos,c,a,first,b⟩:=n;simp only at v s t;unfold pw.t;simp only;have g:=λW=>rq first W U
 have i:=λW=>rq b W U;have u:(512:Y)<c\/((c:Y)<=512/\(a:Y)<1)\/((c:Y)<=512/\(1:Y)<=a/\(100:Y)<a)\/((c:Y)<=512/\(1:Y)<=a/\(a:Y)<=100/\decide (1<=first.size/\first.size<=8)=bD)\/((c:Y)<=512/\(1:Y)<=a/\(a:Y)<=100/\decide (1<=first.size/\first.size<=8)=cz/\decide (1<=b.size/\b.size<=8)=bD)\/((c:Y)<=512/\(1:Y)<=a/\(a:Y)<=100/\decide (1<=first.size/\first.size<=8)=cz/\decide (1<=b.size/\b.size<=8)=cz/\(Op.bytesLess first.toList b.toList||first.toList==b.toList)=bD)\/((c:Y)<=512/\(1:Y)<=a/\(a:Y)<=100/\decide (1<=first.size/\first.size<=8)=cz/\decide (1<=b.size/\b.size<=8)=cz/\(Op.bytesLess first.toList b.toList||first.toList==b.toList)=cz):=by cases decide (1<=first.size/\first.size<=8)<;>cases decide (1<=b.size/\b.size<=8)<;>cases(Op.bytesLess first.toList b.toList||first.toList==b.toList)<;>simp<;>omega
 have:(0:Y)<=c:=U;obtain d|⟨d,e⟩|⟨d,e,j⟩|⟨d,e,j,f⟩|⟨d,e,j,f,k⟩|⟨d,e,j,f,k,l⟩|⟨d,e,j,f,k,l⟩:=u;all_goals first|rw[f]at g|skip
 all_goals first|rw[k]at i|skip
 (all_goals(go_in);go_wp21);iterate 3 ·(go_ret;exact⟨bD,z,ar,z⟩)
 (all_goals go_call g _ as r o⟨rfl,m⟩;subst o;go_wp21);(.go_ret;exact⟨bD,z,ar,z⟩);(all_goals go_call i _ as r o⟨rfl,m⟩;subst o;go_wp2;go_ret);iterate 2 ·exact⟨bD,z,ar,z⟩
 have p:=lK f;have q:=lK k;rw[FH]at l;exact⟨cz,z,λ_=>⟨by show c<=512;omega,by show 1<=a;omega,by show a<=100;omega,p.1,p.2,q.1,q.2,dV l⟩,z⟩
def jN(a:ld):R:=(a.map pw.D).sum
def nD(a:ld):R:=(a.map pw.A).sum
def iR(a:ld):af:=(a.getLast?.map pw.eP).getD ⟨#[]⟩
structure nz(ks:ld):Prop where
 ne:1<=y ks
 dL:y ks<=100
 l:∀k∈ks,k.Can
 MX:nD ks<=100
 p:∀n(h:n<y ks),ks[n].p=jN (ks.take n)
 S:∀n(h:n<y ks),kH (iR<|ks.take n) ks[n].eJ=cz
def Rj(a:ld)(k:pw):jN (a++[k])=jN a+k.D:=by simp[jN]
def Ei(a:ld)(k:pw):nD (a++[k])=nD a+k.A:=by simp[nD]
def BP(a:ld)(k:pw):iR (a++[k])=k.eP:=by simp[iR]
def Kk(a:ld)(n:R):nD (a.take n)<=nD a:=by
 have h:=cD (λl=>(l.map pw.A).sum)<|du n a;simp only[bz,eY]at h;unfold nD;omega
def Nx(h:∀k∈L,k.Can):jN L<=512*y L:=by
 induction L with
 |nil=>simp[jN]
 |cons k L b=>
  have:=(h k ar).D;have:=b (λj a=>h j<|by simp[a]);unfold jN at*;grind
def pw.Can.A{k:pw}(h:k.Can):k.Fits:=⟨bP h.D,bP h.c2,bP h.f8,bP h.l8⟩
def Pm(s:af)(b:s.size<=255):kj (iN s):=by
 intro x a;unfold iN at a;obtain rfl|a:=dy.1 a;omega;exact kj.XI s x a
def Zq{k:pw}(h:k.Fits):kj (uB k):=(kj.le 4 _).jO<|(kj.le 4 _).jO<|(Pm _ h.eJ).jO<|Pm _ h.eP
def L5(h:∀k∈L,k.Fits):kj (L.flatMap uB):=by
 intro x a;let⟨k,b,a⟩:=pV.1 a;exact Zq (h k b) x a
structure zav(w0 w:Z)(rb:R)(dz cut isz sum:Y)(bs:eD)(N:R)(ks:ld)(r:eD)(s:eN)(o:ae):Prop where
 aZ:fE w (G<|H w0) 383 5 o (y ks) (fM ks)
 rd:Rd w rb r s
 L:kj r
 dL:y r<=100000000000000
 g:w.heap[G<|H w0]?=M (aK #[bw dz,eI cut,eI isz,eI sum] 234 (0,0))
 aA:I aC w0 w
 d:G (H w0)<rb
 f:∀k,cN o=M k->rb<k
 dq:s=bD->bs=le 4 N++(ks.flatMap uB++r)
 l:∀k∈ks,k.Can
 p:∀n(h:n<y ks),ks[n].p=jN (ks.take n)
 S:∀n(h:n<y ks),kH (iR<|ks.take n) ks[n].eJ=cz
def Cp{rest:eD}{m6:eN}(a:kj rest)(h:(fZ rest m6 4).2.1=bD):m6=bD/\rest=le 4 (dz rest m6 4)++(fZ rest m6 4).1:=by
 let⟨b,d,c⟩:=uH h;have:=LJ _ (kj.lP (n:=4) (m6:=m6) a).2;rw[c]at this;exact⟨b,by unfold dz;rwa[this]⟩
def zaq(w g:Z)(b:eD)(c d e:Y)(h:Ending):Prop:=∃(f:ae)(ok:eN),h=aN (de #[f,aO ok])/\I aC w g/\(ok=cz->∃a,nz a/\(jN a:Y)=c/\b=iE a/\pu b=e/\(y b:Y)=d/\fE g (G<|H w) 383 5 f (y a) (fM a))
def IB(o i j k:Y)(hT:Steps a)(hb:Bytes a d m)(L:kj m)(hr:y m<=100000000000000)(hv:∀dT,cN d=M dT->dT<G (H a))(hcut:0<=i/\i<4294967296)(dn:0<=j/\j<4294967296):cR bN 182 #[d,ef #[bw o,eI i,eI j,eI k]] a λQ w'=>zaq a w' m i j k Q:=by
 let⟨i0,bi,ca,cb,cd⟩:=cZ SD;obtain⟨dk,dv,rfl⟩:∃dk dv,d=am dk (y m) dv:=by obtain⟨rfl,rfl⟩|⟨dT,b,c,rfl,_⟩:=hb;exact⟨_,_,z⟩;exact⟨_,_,z⟩
 have e1:IntKind.i64.wrap i=i:=by rw[bR];omega
 have e2:IntKind.i64.wrap j=j:=by rw[bR];omega
 have D:∀av,av.heap=(dw a<|aK #[bw o,eI i,eI j,eI k] 234).heap->cR bN 186 #[am dk (y m) dv] av λQ w'=>Q=aN (eI<|pu m)/\w'=av:=λav b=>sX _ m av ((hT.aE _).df b) ((hb.aE _).df b) U;clear hT;have hD:(pu m !=k)=cz\/((pu m !=k)=bD/\((y m:Y)!=j)=cz)\/((pu m !=k)=bD/\((y m:Y)!=j)=bD):=by cases(pu m !=k)<;>cases((y m:Y)!=j)<;>simp
 obtain h1|⟨h1,h2⟩|⟨h1,h2⟩:=hD;iterate 2 ·(go_in;go_wp21;go_quiet(first|(go_at_call 186;refine Calls.quiet_of_same (D _ z)));go_wp2;go_ret2;exact⟨aF,bD,z,(cI aC a).df z,ar⟩)
 go_in
 go_wp21;go_quiet(first|(go_at_call 186;refine Calls.quiet_of_same (D _ z)))
 have F:∃l,(dw a<|aK #[bw o,eI i,eI j,eI k] 234).drewN nq=l/\I aC a l/\l.heap[G<|H a]?=M (aK #[bw o,eI i,eI j,eI k] 234 (0,0))/\Bytes l (am dk (y m) dv) m/\G (H a)<G (H l):=⟨_,z,(cI aC a).df z,aQ _ z,(hb.aE _).df z,ar⟩;let⟨l,F,bv,bl,ba,cc⟩:=F;rw[F];have bm:=oN ba<|λt u=>bP<|hv t u;clear F ba D;go_wp21;go_call bm as Q w2⟨rfl,W,N⟩;subst N;have bT:=vp (G<|H l) bD _ W L U;have n1:=jV (n:=4) (m6:=bD) L;have i1:=(kj.lP (n:=4) (m6:=bD) L).1;have v1:=λq=>(Cp (rest:=m) (m6:=bD) L q).2;have l1:=(je m bD 4).1;clear W;generalize dz m bD 4=nn at*;generalize fZ m bD 4=dx at*;let⟨O,B,A3⟩:=dx;simp only at*;go_wp21;go_call bT as Q w3⟨rfl,aa,ap⟩;have cm:=ak v1;clear v1;have dc:=ap.size;simp at dc;have cT:I aC a w3:=bv.aj ((cI (λt=>t=G (H l)) l).aj (gI ap)<|λ_=>J)<|λt u=>bu U;clear bT bm;have hN:nn<1\/(1<=nn/\100<nn)\/∃al:R,nn=al/\1<=al/\al<=100:=by obtain q|q:=ya nn 1;exact J q;obtain q2|q2:=ya 100 nn;exact bu<|J ⟨q,q2⟩;exact bu<|bu ⟨nn.toNat,U,U,U⟩
 obtain hN|⟨hN,cu⟩|⟨al,rfl,eb,cu⟩:=hN;iterate 2 ·(go_wp2;go_ret2;exact⟨aF,bD,z,cT,ar⟩)
 go_wp2_with(first
  |(at_make;go_loud(refine kg _ z _ _ 319 z (G (H a)) 383 i0 (.agg #[.int .i64 0,.int .i64 0,.int .i64 0,.string ⟨#[]⟩,.string ⟨#[]⟩]) 5 underlying319 bi ca cb _ _ _ al z z U (by rw[cd];omega) (by unfold maxLen;omega) U ?_;intro w4 V T;have ck:=ak V;have ac:=ak T;clear V T)))
 have eg:=ac.size;have hA0:zav a w4 (G<|H l) o i j k m al [] O B (bX (G<|H w3) 0 0 al):=by have c:I (λt=>t=G (H l)) l w3:=(cI (λt=>t=G (H l)) l).aj (gI ap)<|λ_=>J;have b:I (λt=>t=G (H l)) l w4:=c.t<|I.eF (S:=aC) ac ar;refine⟨ck,aa.nj ac,i1,U,(b.A _ (az bl) (by intro Q;omega)).trans bl,bv.aj b<|λt u=>bu U,cc,?_,ag cm,ar,ar,ar⟩;intro t u;simp[cN]at u;omega
 clear i1 l1 aa;go_loopw [8,9,10,11,39] (λc p q ch b wr=>∃(g:ld)(dd:eD)(ce:eN),y g<=al/\b=eI (y g)/\p=ay (jN g:R)/\q=ay (nD g:R)/\ch=aw (iR g)/\zav a wr (G<|H l) o i j k m al g dd ce c) (λ_ _ _ _ b _=>al-(intOf b).toNat)
 exact⟨[],O,B,bQ _,z,z,z,z,hA0⟩
 .obtain⟨g,dd,ce,ec,rfl,rfl,rfl,rfl,f⟩:=hrel;let⟨ox,oc,ho⟩:=aM f.aZ;have ds:=f.rd.lt;have ei:=f.aA.D;have bs:jN g<=51200:=bP<|Nx f.l;have bf:nD g<=10000:=by
   have:∀ch:ld,(∀t∈ch,t.Can)->nD ch<=100*y ch:=λch=>by
    induction ch with
    |nil=>simp[nD]
    |cons t ch c=>
     intro b;have h1:=c (λq a=>b q<|by simp[a]);have h2:=(b t ar).c2;unfold nD at*;simp;omega
   have:=this g f.l;omega
  by_cases cM:y g<al
  .have i1:=(kj.lP (n:=4) (m6:=ce) f.L).1;have l1:=(je dd ce 4).1;have n1:=jV (n:=4) (m6:=ce) f.L;have l0:=f.dL;have ao:=vp (G<|H l) ce wr f.rd f.L U;have v1:=λq=>Cp (rest:=dd) (m6:=ce) f.L q;generalize dz dd ce 4=z1 at*;generalize fZ dd ce 4=dx at*;let⟨O,B,A3⟩:=dx;simp only at*;have i2:=(kj.lP (n:=4) (m6:=B) i1).1;have l2:=(je O B 4).1;have n2:=jV (n:=4) (m6:=B) i1;have bb:=λav(d:Rd av (G<|H l) O B)=>vp (G<|H l) B av d i1 U;have v2:=λq=>Cp (rest:=O) (m6:=B) i1 q;generalize dz O B 4=z2 at*;generalize fZ O B 4=el at*;let⟨B1,B2,B3⟩:=el;simp only at*;have i3:=(qZ B1 B2).2 i2;have l3:=(qZ B1 B2).1;have bc:=λav(d:Rd av (G<|H l) B1 B2)=>Cq d i2 U;have v3:=λq=>AE (rest:=B1) (m6:=B2) i2 q;generalize nQ B1 B2=em at*;let⟨C1,C2,C3⟩:=em;simp only at*;have i4:=(qZ C1 C2).2 i3.1;have l4:=(qZ C1 C2).1;have bd:=λav(d:Rd av (G<|H l) C1 C2)=>Cq d i3.1 U;have v4:=λq=>AE (rest:=C1) (m6:=C2) i3.1 q;generalize nQ C1 C2=en at*;let⟨D1,D2,D3⟩:=en;simp only at*;generalize qM C3=first at*
   generalize qM D3=e at*;obtain⟨c,rfl⟩:∃ab:R,z1=ab:=⟨z1.toNat,U⟩;obtain⟨b,rfl⟩:∃ab:R,z2=ab:=⟨z2.toNat,U⟩;let⟨pos,C⟩:∃ab,jN g=ab:=⟨_,rfl⟩;have e3:IntKind.i64.wrap (c:Y)=c:=by rw[bR];omega
   have e4:IntKind.i64.wrap (b:Y)=b:=by rw[bR];omega
   have p:=λav=>Zv ⟨pos,c,b,first,e⟩ av ⟨by show c<_;omega,by show b<_;omega⟩ i3.2.2 i4.2.2;unfold pw.t at p;simp only at p;have aU:D2=bD->m=le 4 al++((g++[(⟨pos,c,b,first,e⟩:pw)]).flatMap uB++D1):=λq=>by
    let⟨q3,cs⟩:=v4 q;let⟨q2,cr⟩:=v3 q3;let⟨q1,cp⟩:=v2 q2;let⟨q0,co⟩:=v1 q1;rw[f.dq q0,co,cp,cr,cs,gS];simp[uB]
   clear v1 v2 v3 v4;let⟨HA,aD,cj,P⟩:=js f (show∀(dk:eN)(a:Z),(Op.unary .not<|aO dk).run bN a=.ok (aO<|!dk) a fromλ_ _=>rfl) i4.1 C;rw[C]at bs|-;clear f i1 i2 i3 i4 C;subst ho;let⟨ll,bk⟩:∃ll,iR g=ll:=⟨_,rfl⟩;let⟨E,w⟩:∃E,nD g=E:=⟨_,rfl⟩;rw[w]at bf|-;rw[bk];go_wp21;go_call ao as Q w5⟨rfl,bo,cv⟩;have N:=bb w5 bo;clear bo ao bb;go_wp21;go_call N as Q w6⟨rfl,bp,cx⟩;have bE:=bc w6 bp;clear bp N bc;go_wp21;go_call bE as Q w7⟨rfl,bq,cB⟩;have bL:=bd w7 bq;clear bq bE bd;go_wp21;go_call bL as Q A⟨rfl,br,bg⟩;clear bL;have x:I (λt=>t=G (H l)) wr A:=(((gI cv).aj (gI cx)<|λ_=>J).aj (gI cB)<|λ_=>J).aj (gI bg)<|λ_=>J;have bt:G (H l)<G (H A):=bP x.D;have ad:=ak<|show I aC a A from HA.aA.aj x<|λt u=>bu U;have cl:=ak<|show fE A (G<|H a) 383 5 (am ox (y g) oc) (y g) (fM g)from x.aZ HA.aZ<|λt u Q=>bP<|HA.f t u;have HX:=ak (show pw.Can ⟨pos,c,b,first,e⟩->kH ll first=cz->∀o2 r,fE r (G<|H a) 383 5 o2 (y g+1) (fM g++[ay pos,ay c,ay b,aw first,aw e])->fo (dw (dw (dw A<|aK #[ay pos,ay c,ay b,aw first,aw e] 383)<|aK #[ay pos,ay c,ay b,aw first,aw e] 383)<|aK #[ay pos,ay c,ay b,aw first,aw e] 383) r (am ox (y g) oc) o2->Cg r (G<|H A) ⟨pos,c,b,first,e⟩/\zav a r (G<|H l) o i j k m al (g++[⟨pos,c,b,first,e⟩]) D1 D2 o2 from by
    intro s aV o2 r v n;have f:=ag HA;have bt:=x.D;have bn:=f.aZ.lt;have bx:I (λt=>cN (am ox (y g) oc)=M t) A r:=((((I.bI (λt=>cN (am ox (y g) oc)=M t) A).aE _).aE _).aE _).aj (I.fV n)<|λ_=>J;have K:Cg (dw A<|aK #[ay pos,ay c,ay b,aw first,aw e] 383) (G<|H A) ⟨pos,c,b,first,e⟩:=aQ _ z;have db:I (λt=>cN (am ox (y g) oc)=M t) (dw A<|aK #[ay pos,ay c,ay b,aw first,aw e] 383) r:=(((I.bI (λt=>cN (am ox (y g) oc)=M t) _).aE _).aE _).aj (I.fV n)<|λ_=>J;have an:=f.f;refine⟨K.aA db<|λQ=>bP<|(bn _ Q).2,?_,?_,cj,bP f.dL,?_,?_,f.d,?_,aU,?_,?_,?_⟩
    .rwa[WV,ai]
    .exact(((br.nj<|eR A (aK #[ay pos,ay c,ay b,aw first,aw e] 383) dE).nj<|eR _ (aK #[ay pos,ay c,ay b,aw first,aw e] 383) dE).nj<|eR _ (aK #[ay pos,ay c,ay b,aw first,aw e] 383) dE).lB n an
    .exact(bx.A _ U<|λQ=>gW (an _ Q) f.d).trans<|(x.A _ (az f.g) U).trans f.g
    .exact(ag ad).aj bx<|λt u=>bu (bn t u).1
    .intro t u;obtain ea|⟨g9,ea,hy⟩:=n.f
     .exact an t<|ea.symm.trans u
     .rw[ea]at u;cases u;simp at hy;omega
    .intro t u;obtain q|q:=aP.1 u
     .exact f.l t q
     .rwa[bY.1 q]
    .intro ab h;rw[um];split
     .rename_i q;rw[f.p ab q,jR U]
     .rename_i q;have:ab=y g:=by simp at h;omega
      subst this;simp[<-ag P]
    .intro ab h;rw[um];split
     .rename_i q;rw[jR U];exact f.S ab q
     .rename_i q;have:ab=y g:=by simp at h;omega
      subst this;simp[bk,aV])
   clear x br bg;have dr:=ag aD;go_wp21;go_call p _ as Q w9⟨gb,rfl,bh,ed⟩;subst w9;clear p;cases gb
   .go_wp2;go_ret2
    exact⟨aF,bD,z,((ag ad).aE _).aE _,ar⟩
   have s:=bh z;clear bh;cases ha:kH ll first
   .have a8:(Op.bytesLess first.toList ll.toList||first.toList==ll.toList)=cz:=by rw[FH,ha];rfl
    go_wp2;go_ret2
    exact⟨aF,bD,z,((ag ad).aE _).aE _,ar⟩
   have a8:(Op.bytesLess first.toList ll.toList||first.toList==ll.toList)=bD:=by rw[FH,ha];rfl
   have f1:=s.D;have f2:=s.c2;simp only at f1 f2;have cn:=ak<|ag HX s ha;clear s HX ha;go_wp2_with(first
    |(at_builtin;go_loud(refine cq _ z (.tmp 62) (.tmp 64) 319 z (G (H a)) 383 i0 (.agg #[.int .i64 0,.int .i64 0,.int .i64 0,.string ⟨#[]⟩,.string ⟨#[]⟩]) 5 56 underlying319 bi ca cb cd z cg (.slice ox (y g) oc) (y g) (fM g) z (bC (bC (bC cl _) _) _) (X (G (H A)+2) 0) 1 1 [.int .i64 pos,.int .i64 c,.int .i64 b,.string first,.string e] z z (WP _ _ _ _ _ _ ar) (by simp[Value.oneCell']) U U dW ?_;intro o2 r v n;let⟨K,hA10⟩:=cn o2 r v n;let⟨m0,m1,m2,m3,m4⟩:=K.bU;simp only at m0 m1 m2 m3 m4;obtain⟨ek,ej,rfl⟩:=aM v;have ax:=ak hA10;clear v n hA10 K)))
   go_quiet(fail)
   go_wp2;go_roundw
   .refine⟨g++[⟨pos,c,b,first,e⟩],D1,D2,ai▸cM,by rw[ai];go_num,?_,?_,?_,?_⟩
    .rw[Rj,ag P];go_num
    .rw[Ei,w];go_num
    .rw[BP]
    .have f:=ag ax;exact⟨f.aZ,f.rd,f.L,f.dL,f.g,f.aA.df z,f.d,f.f,f.dq,f.l,f.p,f.S⟩
   .simp[intOf];omega
  .have s:y g=al:=U;have p:=Af f.rd<|bP f.dL;have ao:=aX f.g 1;let⟨n,c⟩:∃n,jN g=n:=⟨_,rfl⟩;let⟨E,w⟩:∃E,nD g=E:=⟨_,rfl⟩;let⟨e,b⟩:∃e,(!ce&&dd.isEmpty)=e:=⟨_,rfl⟩;have r:e=cz->(n:Y)=i->(E:Y)<=100->zaq a wr m i j k (aN<|de #[am ox (y g) oc,aO cz]):=λq0 q1 q2=>
    ⟨_,cz,z,f.aA,λ_=>⟨g,⟨U,U,f.l,U,f.p,f.S⟩,c▸q1,by
     rw[q0]at b;simp at b;rw[f.dq b.1,b.2,iE,s,eu],dV h1,dV h2,by have:=f.aZ;rwa[ho]at this⟩⟩
   have v:=ak f.aA;clear f;subst ho;rw[b]at p;clear b;rw[c,w];rw[c]at bs;rw[w]at bf;have A:e=bD\/(e=cz/\(((n:Y)==i)=bD))\/(e=cz/\((n:Y)==i)=cz/\decide ((E:Y)<=100)=bD)\/(e=cz/\((n:Y)==i)=cz/\decide ((E:Y)<=100)=cz):=by
    cases e<;>cases((n:Y)==i)<;>cases decide ((E:Y)<=100)<;>simp
   clear c w;have:¬((y g:Y)<(al:Y)):=U;obtain rfl|⟨rfl,x⟩|⟨rfl,x,C⟩|⟨rfl,x,C⟩:=A;all_goals
    go_wp21;go_call p as Q w5⟨rfl,K⟩;subst w5;go_wp2;go_ret2
   iterate 3 ·exact⟨_,bD,z,v,ar⟩
   .have h:=r trivial (dV x)<|dV C;rwa[s]at h
abbrev Fs:=cy<|af×eD
variable{N:Fs}
def vw(a:cy dj):Fs:=a.map<|λf=>(f.dA,f.bB)
def fp:Fs->af->Option eD
 |[],_=>dE
 |f::r,n=>if f.1=n then M f.2 else fp r n
def sk:Fs->af->Fs
 |[],_=>[]
 |f::r,n=>if f.1=n then r else f::sk r n
def pt:Fs->af×eD->Fs
 |[],f=>[f]
 |g::r,f=>if g.1=f.1 then f::r else g::pt r f
def BX(a:Fs):R:=(a.map (·.2.length)).sum
def XC(a:cy dj):fw a=BX (vw a):=by
 unfold fw BX vw;rw[iW];rfl
def nI(a:cy dj)(n:af):fp (vw a) n=(ij a n).map dj.bB:=by
 induction a with
 |nil=>rfl
 |cons f r b=>
  unfold vw at*;by_cases h:f.dA=n<;>simp[fp,ij,h,b]
def vq(a:cy dj)(n:af):vw (mK a n)=sk (vw a) n:=by
 induction a with
 |nil=>rfl
 |cons f r b=>
  unfold vw at*;by_cases h:f.dA=n<;>simp[sk,mK,h,b]
def ql(a:cy dj)(f:dj):vw (po a f)=pt (vw a) (f.dA,f.bB):=by
 induction a with
 |nil=>rfl
 |cons g r b=>
  unfold vw at*;by_cases h:g.dA=f.dA<;>simp[pt,po,h,b]
def JR(h:fp N B=M m):pt N (B,m)=N:=by
 induction N with
 |nil=>cases h
 |cons g r b=>
  let⟨a,c⟩:=g;by_cases e:a=B
  .subst e;simp[fp]at h;simp[pt,h]
  .simp[fp,e]at h;simp[pt,e,b h]
def Wk(d c:eD)(h:fp N B=dE):pt (N++[(B,d)]) (B,c)=N++[(B,c)]:=by
 induction N with
 |nil=>simp[pt]
 |cons g r b=>
  let⟨a,f⟩:=g;by_cases e:a=B
  .simp[fp,e]at h
  .simp[fp,e]at h;simp[pt,e,b h]
def og(a b:Fs)(n:af):fp (a++b) n=(fp a n).or (fp b n):=by
 induction a with
 |nil=>simp[fp]
 |cons g r c=>by_cases e:g.1=n<;>simp[fp,e,c]
def uM(b:Fs)(f:af×eD)(n:af):fp (pt b f) n=if f.1=n then M f.2 else fp b n:=by
 induction b with
 |nil=>by_cases e:f.1=n<;>simp[pt,fp,e]
 |cons h r g=>
  by_cases e:h.1=f.1
  .by_cases a:f.1=n<;>simp[pt,fp,e,a]
  .by_cases a:h.1=n
   .have c:¬f.1=n:=aI;have d:¬n=f.1:=λa=>c a.symm;simp[pt,fp,a,c,d]
   .simp[pt,fp,e,a,g]
def Ac(h:fp N B=M m):(B,m)∈N:=by
 induction N with
 |nil=>cases h
 |cons g r c=>
  let⟨a,b⟩:=g;by_cases e:a=B
  .subst e;simp[fp]at h;simp[h]
  .simp[fp,e]at h;grind
def yH{a:cy dj}(h:fp (vw a) B=M m):∃F,ij a B=M F/\F.bB=m:=by
 rw[nI]at h;simp_all
def LY{a:cy dj}(h:fp (vw a) B=dE):ij a B=dE:=by
 rw[nI]at h;simp_all
def H9(h:mu [.cr B,.ap B m,.sy B] f x)(e:fp (vw f.ah) B=dE):vw x.ah=vw f.ah++[(B,m)]/\y x.l=y f.l+1:=by
 let⟨g,⟨D,C,l,v,n⟩,i,⟨F,E,j,o,w,p⟩,u,⟨t,k,c1,c2,c3⟩,q,A,r⟩:=h;have c:vw g.ah=vw f.ah++[(B,[])]:=by rw[l];simp[vw]
 have b:fp (vw g.ah) B=M []:=by rw[c,og,e];simp[fp]
 have hF:F.bB=[]:=by rw[nI,j]at b;simpa using b
 have d:vw i.ah=vw f.ah++[(B,m)]:=by rw[o,ql];simp only[hF,ep,(eM j).1];rw[c];exact Wk [] m e
 have a:fp (vw i.ah) B=M m:=by rw[d,og,e];simp[fp]
 have s:t.bB=m:=by rw[nI,k]at a;simpa using a
 refine⟨?_,by rw[r,c3,p,n.1];simp⟩;rw[q,c1,ql];simp only[s,(eM k).1];rw[JR a,d]
def AL{l:cy qG}:∀{K c:DK},mu l K c->y c.l<=y K.l+y l:=by
 induction l with
 |nil=>
  intro K c h;rw[h.2.2];simp
 |cons o l f=>
  rintro K c⟨d,b,e⟩;have:=f e;have:y d.l<=y K.l+1:=by
   obtain n|⟨n,g⟩|n|⟨x,i⟩|n|_:=o
   .let⟨_,_,_,_,a,_⟩:=b;rw[a];simp
   .let⟨_,_,_,_,_,a⟩:=b;rw[a];simp
   .let⟨_,_,_,_,a⟩:=b;rw[a];simp
   .let⟨_,_,_,_,_,a⟩:=b;rw[a];simp
   .let⟨_,_,_,_,_,a⟩:=b;rw[a];simp
   .let⟨_,_,a⟩:=b;rw[a];simp
  rw[bK];omega
def Ov(h:mu [.cr B,.ap B m,.sy B] f x):y x.l=y f.l+1:=by
 let⟨e,⟨_,_,_,_,a,_⟩,g,⟨_,_,_,_,_,b⟩,i,⟨_,_,_,_,c⟩,_,_,d⟩:=h;rw[d,c,b,a];simp
def Nb{db:R}{K:DK}(a:af)(F b i:R){bs:eD}{w:Z}(h:cJ w db K)(hn:y K.l<=1000000000000)(c:qu K.fx)(B:y bs<=1099511627776)(E:kj bs)(C:∀Q S,(bs.map<|Value.int .u8)[Q]?=M S->bA w (X F<|b+Q)=M S)(e:F<G (H w))(r:¬K.j db F)(k:Nm a):cR bN 258 #[aJ db,aw a,bX F b (y bs) i] w λt s=>wU w s db K [.cr a,.ap a bs,.sy a] t:=by
 have D:=Eh a h (λ_=>c) hn k;have V:=ak (show∀l d,pT w l db K d->Qs (.cr a) K d->cR bN 25 #[aJ db,aw a,bX F b (y bs) i] l λt s=>wU l s db d [.ap a bs] t from by exactλl d j _=>Kp a F b i bs j.ok (λ_=>j.fx.D c) (J<|j.fx.D c) B E (λQ S f=>j.aA.u (C Q S f) r e) (au e j.aA.D) (λt=>r<|J t) k);have W:=ak (show∀n g,cJ n db g->Fx K.fx g.fx->cR bN 111 #[aJ db,aw a] n λt s=>wU n s db g [.sy a] t fromλn g j b=>Tz a j (λ_=>b.D c) k);have L:=ak h.L;go_in
 go_wp21;go_call D as t l⟨v1,d,rfl,u⟩;obtain⟨rfl,O⟩|⟨ac,q,aa,r1,r2,rfl,r3⟩:=u.d;rotate_left;(.have A:=ak u;go_wp2;go_ret;exact⟨_,d,z,vU.jl (m:=[.ap a bs,.sy a])<|ag A⟩);have P:Qs (.cr a) K d:=by let⟨K',a1,a2,a3,a4⟩:=O;let⟨ab,g9,b1,b2,N⟩:=a1;exact⟨ab,g9,a2.trans b1,a3.trans b2,a4.trans N.1,N.2⟩
 have ha:=V l d u.D P;let⟨f,o,T⟩:=eU u.D O P;go_wp21;go_call ha as t n⟨v2,g,rfl,p⟩;obtain⟨rfl,o2⟩|⟨ac,q,aa,r1,r2,rfl,r3⟩:=p.d;rotate_left;(.have A:=ak<|vU.jl (m:=[.sy a])<|vU.t L f o p;go_wp2;go_ret;exact⟨_,g,z,A⟩);have hs:=W n g p.D.ok (f.aj p.D).fx;have v:=ak<|f.aj p.D;have x:=ak<|mu.Fa o o2;go_wp21;go_call hs as t w3⟨v3,K3,rfl,h3⟩;have hr:=vU.t L v x h3;go_wp2;go_ret;exact⟨_,K3,z,hr⟩
def TN{db:R}{K:DK}(a:af){bs:eD}{w:Z}(h:cJ w db K)(A:fp (vw K.ah) a=M bs)(k:Nm a):cR bN 70 #[aJ db,aw a] w λt E=>RdP w E db K bs t:=by
 obtain⟨F,hF,rfl⟩:=yH A;have B:y F.bB<=1099511627776:=h.dL (eM hF).2.1;have r:=TF a h k;have n:=ak<|λ(s:Z)x(b:pT w s db K {K with fx:=x})=>Jv a 0 (y F.bB) b.ok hF (bQ _) B k;have v:=ak h.L;go_in
 go_wp21;go_call r as t s⟨x,b,⟨u,g,rfl⟩|⟨g,_⟩|⟨o,q,rfl,p⟩⟩;(·(obtain rfl:F=u:=by rw[hF]at g;cases g;rfl);have l:=n s x b;rw[List.drop_zero,cQ]at l;go_wp21;go_call l as t L⟨f,i,m,j,⟨D,rfl,C⟩|⟨o,q,rfl,p⟩⟩;(.have c:=ak<|b.aj i;have HB:=ak<|Lq C b.aA.D;let⟨e,d⟩:Hid (wS _ f)/\Hid (∀k,f.j db k->K.j db k):=⟨m,j⟩;go_wp2;(go_ret2);exact⟨f,c,e,d,J ⟨D,z,HB⟩⟩);have c:=ak<|b.aj i;have HB:=ak<|b.fx.p v o;let⟨e,d⟩:Hid (wS _ f)/\Hid (∀k,f.j db k->K.j db k):=⟨m,j⟩;go_wp2;(go_ret2);exact⟨f,c,e,d,bu ⟨HB,q,z,p⟩⟩);rw[hF]at g;cases g;let⟨c,HB,d⟩:=eU b o p;go_wp2;(go_ret2);exact⟨_,c,⟨z,z,z⟩,λ_ t=>t,bu ⟨HB,q,z,d⟩⟩
def RnP(w c:Z)(b:R)(K:DK)(e:Ending):Prop:=∃a q d,pT w c b K a/\wS K a/\(∀k,a.j b k->K.j b k)/\e=aN (de #[aF,eW q])/\rE c q d/\(d=10\/d=8/\0<K.fx.bd)
def Ju{db:R}{K:DK}(a:af){w:Z}(h:cJ w db K)(l:fp (vw K.ah) a=dE)(d:Nm a):cR bN 70 #[aJ db,aw a] w λg m=>RnP w m db K g:=by
 have f:=TF a h d;have hF:=LY l;go_in
 go_wp21;go_call f as g o⟨p,i,⟨n,c,rfl⟩|⟨c,q,rfl,e⟩|⟨k,q,rfl,e⟩⟩;rw[hF]at c;cases c;(.have b:=ak i;go_wp2;(go_ret2);exact⟨_,q,10,b,⟨z,z,z⟩,λ_ g=>g,z,e,J z⟩);let⟨b,HB,j⟩:=eU i k e;go_wp2;(go_ret2);exact⟨_,q,8,b,⟨z,z,z⟩,λ_ g=>g,z,j,bu ⟨z,HB⟩⟩
def vy(h:fE a b c k d n Q)(l:0<n):∃g e,d=bX g 0 n e/\b<=g/\g<G (H a)/\n<=e:=by
 obtain⟨i,⟨_,j⟩|⟨g,e,f,m,o,p,q,_⟩⟩:=h;omega;grind
structure Qz(w0 w:Z)(tb:R)(l:dB)(cs:iG)(bb vW db IX:R):Prop where
 f:sw l cs
 D:mR w tb (ee dE) 0 0 0 0 bb 0 vW (bX db 0 (y<|gF cs) IX) (dK 0 cs)
 A:fA w (G<|H w0) (bX db 0 (y<|gF cs) IX) (gF cs)
 L:fE w (G<|H w0) 383 5 (bX bb 0 (y<|dK 0 cs) vW) (y<|dK 0 cs) (fM<|dK 0 cs)
 lY:G (H w0)<=tb
 aA:I aC w0 w
def Gb(r:dB)(w d k:R)(W:Z)(N:Steps W)(Q:w<G (H W))(O:∀aa ab,(bj r)[aa]?=M ab->bA W (X w<|d+aa)=M ab)(t:y r<=k)(u:0<y r)(l:∀ad∈r,ad.Good)(V:gG r)(i:∀w∈ji r,y w<=10)(S:y r<=1000000):cR bN 131 #[bX w d (y r) k] W λac j=>∃A c e a f b,ac=aN (aJ A)/\Qz W j A r c e a f b:=by
 have v:=GH w d k N Q O t u l V i S
 have E:=ak (show∀n q c j,sw r c->fA j (G<|H W) n (gF c)->fE j (G<|H W) 383 5 q (y c) (fM<|dK 0 c)->I aC W j->∃e a f b,q=bX e 0 (y<|dK 0 c) a/\n=bX f 0 (y<|gF c) b/\Qz W (dw j<|aK #[ee dE,bw 0,eI 0,eI 0,eI 0,bX e 0 (y<|dK 0 c) a,bX f 0 (y<|gF c) b] 323) (G<|H j) r c e a f b from by
  intro n q c j m o i p;rw[<-lF c 0]at i;have g:0<y (dK 0 c):=by
   rw[lF];obtain K|K:=fO<|y c
   .obtain rfl:=bG K;have:=m.p;grind
   .exact K
  have s:0<y (gF c):=by
   rw[lF]at g;have:=Uh c 0 g;omega
  have:=m.xN;obtain⟨e,a,rfl,b1,b2,F⟩:=vy i g;obtain⟨f,b,rfl,d1,d2,d3⟩:=vy o s;refine⟨e,a,f,b,z,z,m,⟨aQ _ z,?_,g,F,by rw[lF];omega⟩,o.aE _,bC i _,p.D,p.aE _⟩;intro aa ab hj;obtain⟨h1,⟨L,h0⟩|⟨b',B,x,L,_,P⟩⟩:=dQ<|bC i<|aK #[ee dE,bw 0,eI 0,eI 0,eI 0,bX e 0 (y<|dK 0 c) a,bX f 0 (y<|gF c) b] 323
  .omega
  grind)
 go_in
 go_wp2_with(go_at_call 193;refine v.mono ?_;rintro ac C⟨n,q,c,rfl,m,o,i,p⟩;obtain⟨e,a,f,b,rfl,rfl,hF⟩:=E n q c C m o i p;have D:=ak hF;clear m o i p hF)
 go_ret;exact⟨G<|H C,c,e,a,f,b,z,D⟩
def EH{a:af}{c:eD}(h:iN B++m=iN a++c):B=a/\m=c:=by
 have b:=(yh B m).1;rw[h,(yh a c).1]at b;injection b with d e;injection e with _ f;exact⟨by rw[<-yi B,<-yi a,f],d.symm⟩
def PN{x g9:E}{a b:eD}(c:x.Good)(d:g9.Good)(h:yJ x++a=yJ g9++b):x=g9/\a=b:=by
 unfold yJ at h;rw[cw,cw]at h;let⟨i,e⟩:=ud h (by rw[dh,dh]);have:x.f=g9.f:=by rw[<-zU c.b0 c.b1,<-zU d.b0 d.b1,i]
 unfold oC at e;rw[dt,dt]at e;injection e with f g;rw[cw,cw]at g;let⟨l,j⟩:=EH g;let⟨m,k⟩:=EH j;refine⟨?_,k⟩;have:x.dP=g9.dP:=by cases c:x.dP<;>cases d:g9.dP<;>rw[c,d]at f<;>simp[qo]at f<;>rfl
 cases x;cases g9;simp_all
def PP:∀{c d:dB},(∀x∈c,x.Good)->(∀x∈d,x.Good)->y c=y d->iH c=iH d->c=d
 |[],[],_,_,_,_=>rfl
 |[],_::_,_,_,h,_=>by simp at h
 |_::_,[],_,_,h,_=>by simp at h
 |x::c,a::d,b,e,j,h=>by
  have f:yJ x++iH c=yJ a++iH d:=by simpa[iH]using h
  let⟨g,i⟩:=PN (b x ar) (e a ar) f;rw[g,PP (λq a=>b q<|by simp[a]) (λq a=>e q<|by simp[a]) (dV j) i]
structure Fz(bs:eD)(k:pw)(c:dB):Prop where
 eq:bs=ik (iH c)
 of:k.Of c
 S:∀x∈c,x.Good
 o:gG c
def DF{b:eD}(h:ik m=ik b):m=b:=by
 unfold ik at h;have a:=cD y h;rw[ai,ai,dh,dh]at a;exact(ud h U).1
def Fz.Xx{k:pw}{d:dB}(h:Fz m k i)(a:Fz m k d):i=d:=PP h.S a.S (h.of.A.symm.trans a.of.A)<|DF<|h.eq.symm.trans a.eq
def M7(k:pw):dB:=if k.eJ=k.eP then [⟨k.eJ,⟨#[]⟩,cz,0⟩]else [⟨k.eJ,⟨#[]⟩,cz,0⟩,⟨k.eP,⟨#[]⟩,cz,0⟩]
def zfg(P:eD->pw->dB):Prop:=∀a k,(∀c,Fz a k c->P a k=c)/\((¬∃c,Fz a k c)->P a k=M7 k)
def eX:∃P,zfg P:=by
 classical
 exact⟨λa k=>if h:∃c,Fz a k c then h.choose else M7 k,λa k=>⟨λc h=>(Ay ⟨c,h⟩).trans<|Fz.Xx (Exists.choose_spec (⟨c,h⟩:∃c,Fz a k c)) h,λh=>dif_neg h⟩⟩
def Mu{k:pw}(h:Fz m k i):eX.choose m k=i:=(eX.choose_spec m k).1 i h
def Ij{k:pw}(b:k.Can)(a:eD):k.Fl (eX.choose a k)/\(∀x∈eX.choose a k,x.Good)/\gG (eX.choose a k)/\y (eX.choose a k)<=100:=by
 by_cases h:∃g,Fz a k g;let⟨g,h⟩:=h;rw[Mu h];exact⟨⟨h.of.ne,h.of.eJ,h.of.eP⟩,h.S,h.o,gW h.of.A b.c2⟩;rw[(eX.choose_spec a k).2 h];have d:∀s:af,1<=s.size->s.size<=8->E.Good ⟨s,⟨#[]⟩,cz,0⟩:=λs a b=>⟨a,b,by show(⟨#[]⟩:af).size<=16;decide,λ_=>rfl,ar,ar⟩;have c:=d _ b.f1 b.f8;have f:=d _ b.l1 b.l8;unfold M7;split;rename_i q;exact⟨⟨ar,z,q.symm⟩,dV c,nJ _ _,ar⟩;rename_i q;refine⟨⟨ar,z,z⟩,?_,?_,ar⟩;intro x e;simp at e;obtain rfl|rfl:=e;exact c;exact f;refine List.Pairwise.cons ?_<|nJ _ _;intro i e;simp at e;subst e;rw[iT];refine J ?_;have:=b.le;show kH k.eJ k.eP=cz;rcases hq:kH k.eJ k.eP with _|_;exact absurd (ow hq this) q;rfl
def E8(h:gG i)(a:0<y i)(d:S∈i):kH S.D (i[0]'a).D=bD:=by
 obtain⟨e,c,rfl⟩:=dJ d;obtain rfl|b:=fO e;exact jr _;obtain q|q:=iT.1<|cW.1 h 0 e a c b;exact td q;rw[q.1];exact jr _
def XQ(h:gG i)(e:0<y i)(c:S∈i):kH (i[y i-1]'U).D S.D=bD:=by
 obtain⟨d,b,rfl⟩:=dJ c;by_cases a:d=y i-1;subst a;exact jr _;obtain q|q:=iT.1<|cW.1 h d (y i-1) b U U;exact td q;rw[q.1];exact jr _
def TZ{b c:af}(h:kH b B=bD)(k:kH b c=cz):kH B c=cz:=by
 rcases hq:kH B b with _|_;rwa[ow hq h];exact mz hq k
def nz.up(h:nz L):∀(d i:R)(a:i+1+d<y L),kH (L[i]'U).eP (L[i+1+d]).eJ=cz
 |0,i,a=>by
  have:=h.S (i+1) a;rwa[show iR (L.take<|i+1)=(L[i]'U).eP by rw[aG U,BP]]at this
 |d+1,i,a=>by
  have b:=nz.up h d i U;have c:=(h.l _<|aB<|show i+1+d<y L by omega).le;have e:=nz.up h 0 (i+1+d) U;exact mz (BT b c) e
def Eg(P:eD->pw->dB)(B:R->eD)(a:ld):iG:=a.mapIdx<|λi k=>P (B i) k
def Ah(B:R->eD)(a:ld):y (Eg eX.choose B a)=y a:=by simp[Eg]
def Ai(B:R->eD)(a:ld)(i:R)(h:i<y (Eg eX.choose B a)):(Eg eX.choose B a)[i]=eX.choose (B i) (a[i]'(by rw[Ah]at h;exact h)):=by simp[Eg]
def PU(h:nz L)(B:R->eD):(Eg eX.choose B L).Pairwise lJ:=by
 refine cW.2 λj m f a l x g p i=>?_;rw[Ai]at g i;rw[Ah]at f a;let⟨d,_,n,_⟩:=Ij (h.l _<|aB f)<|B j;let⟨e,_,o,_⟩:=Ij (h.l _<|aB a)<|B m;have b:=XQ n d.ne g;have c:=E8 o e.ne i;rw[<-d.eP]at b;rw[<-e.eJ]at c;obtain⟨k,rfl⟩:∃k,m=j+1+k:=⟨m-j-1,U⟩;exact BT (TZ b<|h.up k j a) c
def o7(h:nz L)(B:R->eD):gG (Eg eX.choose B L).flatten:=by
 refine sH.2 ⟨λf b=>?_,(PU h B).imp λq x c a d=>iT.2<|J<|q x c a d⟩;obtain⟨i,e,rfl⟩:=dJ b;rw[Ai];exact(Ij (h.l _<|aB _)<|B i).2.2.1
def Kh(h:nz L)(B:R->eD):∀c∈Eg eX.choose B L,(∀x∈c,x.Good)/\y c<=100:=λc a=>by
 obtain⟨i,b,rfl⟩:=dJ a;rw[Ai];have:=Ij (h.l _<|aB<|by rwa[Ah]at b)<|B i;exact⟨this.2.1,this.2.2.2⟩
def yj:∀(a:iG)(p:R),jN (dK p a)=y (gF a)
 |[],_=>by simp[jN,dK,gF]
 |c::a,p=>by
  have h:=yj a<|p+(y (iH c)+4);unfold jN at*;rw[dK,bO,ft,h,qU,ai,iB];rfl
def Kl:∀(a:iG)(p:R),nD (dK p a)=y a.flatten
 |[],_=>by simp[nD,dK]
 |c::a,p=>by
  have h:=Kl a<|p+(y (iH c)+4);unfold nD at*;rw[dK,bO,ft,h,di,ai];rfl
def Qf(n:R):∀(a:iG)(p:R),(dK p a).take n=dK p (a.take n):=by
 induction n with
 |zero=>intro a p;simp[dK]
 |succ n b=>
  intro a p;cases a with
  |nil=>simp[dK]
  |cons c a=>rw[dK,ui,b,ui,dK]
def sw.jW(h:sw i O)(l:i≠[])(k:∀x∈i,x.Good)(v:gG i)(w:y i<=100):nz (dK 0 O):=by
 have a:=h.ub l k v;have r:=h.xN;have d:∀a∈O,∀x∈a,x∈i:=λa c x b=>by rw[<-h.p];grind[mem_flatten]
 refine⟨?_,?_,?_,?_,?_,?_⟩;rw[a.dL];exact a.ne;rw[a.dL];omega;intro A u;obtain⟨m,q,rfl⟩:=dJ u;have c:m<y O:=a.dL▸q;have o:=a.l m q c;have b:=aB c;have t:=h.f _ b;have j:=k _<|d _ b _<|aB o.ne;have p:=k _ (d _ b _<|aB<|show y O[m]-1<y O[m]by omega);have g:gG O[m]:=a.o.kE<|eC b;(have s:y O[m]<=y i:=by rw[<-h.p];exact(eC b).length_le);refine⟨o.D▸t.2,o.A▸o.ne,by rw[o.A];omega,o.eJ▸j.L,o.eJ▸j.f,o.eP▸p.L,o.eP▸p.f,?_⟩;rw[o.eJ,o.eP];exact g.FJ o.ne<|aB _;rwa[Kl,h.p];intro n f;have c:n<y O:=a.dL▸f;rw[Qf,yj,a.p n f]
 .intro n f;have c:n<y O:=a.dL▸f;have o:=a.l n f c;have j:=k _<|d _ (aB c) _<|aB o.ne;cases n with
  |zero=>
   rw[List.take_zero];show kH ⟨#[]⟩ _=cz;rw[o.eJ];cases e:kH ⟨#[]⟩ (O[0][0]'o.ne).D with
   |true=>rfl
   |false=>
    have b:=ow e<|LN _;have:=j.L;rw[<-b]at this;exact absurd this cg
  |succ n=>
   have g:n<y (dK 0 O):=U;have b:n<y O:=U;rw[aG g,BP];have m:=a.l n g b;rw[m.eP,o.eJ];exact(cW.1 a.L n (n+1) b c U) _ (aB _) _<|aB _
def Ab(a:iG):eD:=gF a++iE (dK 0 a)
def tM(u:R)(a:iG):cy qG:=[.cr<|jg u,.ap (jg u)<|Ab a,.sy<|jg u]
def TwP(w f:Z)(g e u x h d a:R)(K:DK)(b:iG)(j:Ending):Prop:=∃v c,j=aN v/\cJ f e c/\I (λk=>K.j e k\/k=g\/k=x) w f/\(∀k,c.j e k->K.j e k\/G (H w)<=k)/\Fx K.fx c.fx/\((v=ic/\mu (tM u b) K c/\mR f g (aJ e) u (y<|gF b) (y<|iE<|dK 0 b) (pu<|iE<|dK 0 b) h d a aF (dK 0 b))\/∃l q i,l<+:tM u b/\mu l K c/\v=eW q/\rE f q i/\Xn K.fx i)
def X6(h:fE a b c k d n Q):∀e,cN d=M e->e<G (H a):=λe f=>(aS h e f).2
def PT{α β:Type}(K:α->β->Prop){b:α}{c:β}{a:Prop}(h:K b c->a)(k:K b c):a:=h k
def D4{l m n o p k q a' b' c' d' e' g':ae}{t:TypeId}{c:R×R}(h:a.heap[b]?=M (aK #[l,m,n,o,p,k,q] t c)):(cP (cP (cP (cP (cP (cP a (X b 0) a') (X b 1) b') (X b 2) c') (X b 3) d') (X b 4) e') (X b 6) g').heap[b]?=M (aK #[a',b',c',d',e',k,g'] t c):=by
 have d:=aY (i:=0) (u:=a') h;have e:=aY (i:=1) (u:=b') d;have f:=aY (i:=2) (u:=c') e;have g:=aY (i:=3) (u:=d') f;have j:=aY (i:=4) (u:=e') g;rw[(aY (i:=6) (u:=g') j)];simp
def KE{q i g l D L:R}{K B N m0:Y}(o:mR a b (ee dE) K B N m0 q i g d (dK 0 O))(p:I (λm=>m=n) a e)(h:pT e P c f x)(hv:mu (tM k O) f x)(s:P.heap[b]?=M (aK #[ee dE,bw K,eI B,eI N,eI m0,bX q i (y<|dK 0 O) g,bX n 0 D l] 323 (0,0)))(aa:¬f.j c b)(t:¬f.j c q)(u:q≠b)(v:q≠n)(S:y (gF O)=D)(V:y (iE<|dK 0 O)=L)(F:b<G (H a)):TwP a (cP (cP (cP (cP (cP (cP P (X b 0)<|aJ c) (X b 1)<|bw k) (X b 2)<|eI D) (X b 3)<|eI L) (X b 4)<|eI<|pu<|iE<|dK 0 O) (X b 6) aF).drew b c k n q i g f O (aN ic):=by
 have r:=p.D;have C:=D4 (a':=aJ c) (b':=bw k) (c':=eI D) (d':=eI L) (e':=eI<|pu<|iE<|dK 0 O) (g':=aF) s;have A:I (λm=>m=b) P (cP (cP (cP (cP (cP (cP P (X b 0)<|aJ c) (X b 1)<|bw k) (X b 2)<|eI D) (X b 3)<|eI L) (X b 4)<|eI<|pu<|iE<|dK 0 O) (X b 6) aF):=((((((iQ b P).aL b 1 _<|J z).aL b 2 _<|J z).aL b 3 _<|J z).aL b 4 _<|J z).aL b 6 _<|J z);generalize(cP (cP (cP (cP (cP (cP P (X b 0)<|aJ c) (X b 1)<|bw k) (X b 2)<|eI D) (X b 3)<|eI L) (X b 4)<|eI<|pu<|iE<|dK 0 O) (X b 6) aF)=wf at*;have j:I (λm=>m=b) P wf.drew:=A.df z;have w:∀m,x.j c m->f.j c m\/G (H a)<=m:=λm E=>(h.j m E).elim J aI;refine⟨_,x,z,h.ok.aA j<|λm E ad=>?_,?_,w,h.fx,J ⟨z,hv,?_,?_,o.ne,o.le,o.f⟩⟩;grind
 exact((p.aT (T:=λm=>f.j c m\/m=b\/m=n) ar).aj h.aA aI).aj j ar;rwa[S,V];intro ab ac W;have Q:=p.u (o.bU ab ac W) v o.lt.2;exact j.u (h.aA.u Q t<|au o.lt.2 r) u<|au o.lt.2<|aR r h.aA.D
def KF(bi:R)(hu:bi<18446744073709551616){n0 c0 s0 m0:Y}{s l n6:R}(x d:R)(g:iG)(h:mR a b (ee dE) n0 c0 s0 m0 k s l (bX x 0 (y<|gF g) d) (dK 0 g))(hd:fA a n6 (bX x 0 (y<|gF g) d) (gF g))(hb:n6<=G (H a))(hP:nz (dK 0 g))(bT:kj (gF g))(hT:Steps a)(ab:Pow a)(ek:y (gF g)<=100000)(ap:cJ a c f)(hn:y f.l<=1000000000000)(B:qu f.fx)(en:¬f.j c x)(bb:¬f.j c b)(dk:¬f.j c k)(dn:k≠b)(dr:k≠x):cR bN 201 #[aJ b,aJ c,bw bi] a λbn w'=>TwP a w' b c bi x k s l f g bn:=by
 have t:∀bf∈dK 0 g,bf.Fits:=λbf hk=>(hP.l bf hk).A;have ed:=hP.dL;have cd:=Ll (dK 0 g) k s l a h.lt.2 h.bU U t;have el:y (iE<|dK 0 g)<=52004:=by have h1:=BV t;unfold iE;rw[ai,dh];omega
 have bL:0<y (iE<|dK 0 g):=by unfold iE;rw[ai,dh];omega
 have aa:kj (iE<|dK 0 g):=(kj.le 4 _).jO<|L5 t;have j:=h.g;have t0:=aX j 0;have t5:=aX j 5;have t6:=aX j 6;let⟨i0,ds,ea,eb,ec⟩:=cZ pN;let⟨D,Q⟩:∃D,y (gF g)=D:=⟨_,rfl⟩;let⟨an,hL⟩:∃an,y (iE<|dK 0 g)=an:=⟨_,rfl⟩;have e1:=vr (n:=(D:R)) U U;have e2:=vr (n:=(an:R)) U U;have bm:=ak (show∀v1 r,fA r (G<|H a) v1 (iE<|dK 0 g)->I aC a r->∃E xc,v1=bX E 0 an xc/\G (H a)<=E/\E<G (H r)/\bA r (X b 6)=M (bX x 0 D d)/\b<G (H r)/\(∀dT,I aC r dT->cR bN 186 #[bX E 0 an xc] dT λbn w'=>bn=aN (eI<|pu<|iE<|dK 0 g)/\w'=dT)from by intro v1 r ho ht;obtain⟨E,xc,rfl,a1,a2,_⟩:=vy ho bL;rw[<-hL,<-Q];refine⟨E,xc,z,a1,a2,ht.u t6 id<|az j,aI,λdT hW=>?_⟩;have dv:=ht.t hW;exact sX _ (iE<|dK 0 g) dT (hT.dD (dv.dD (aq _) cY) hT.lt) (fA.bB<|hW.aZ ho<|λ_ _ bh=>bh) U);have cm:=ak h;clear h;rw[Q]at t6;go_in
 go_wp21;go_call cd as bn r⟨v1,rfl,aU,ba⟩;obtain⟨E,xc,rfl,y0,y1,y2,y3,C⟩:=bm v1 r aU ba;have bl:=ak aU;have al:=ak ba;have m:=az j;have ad:¬b=x:=λbn=>by let⟨_,hc⟩:=gh hd (k:=x) rfl;grind
 clear aU ba t0 t5 cd;go_wp21;rename_i QQ KK w;apply PT KK
 .intro bg;go_region_held3(λj4=>bA j4 (X b 6)=M (bX x 0 D d)) (first|assumption|go_keep) (first
   |(go_at_call 186;refine(C r.drew<|cf _ _).mono ?_;rintro bn w2⟨rfl,dT⟩;subst w2;have dv:bA r.drew (X b 6)=M (bX x 0 D d):=y2)
   |(go_at_call 186;refine(C (dw r (.cells #[.int .u64 0,.int .u32 0,.int .u32 0,.int .u32 0] 234)).drew ((cI _ r).df z)).mono ?_;rintro bn w2⟨rfl,dT⟩;subst w2;have dv:bA (dw r (.cells #[.int .u64 0,.int .u32 0,.int .u32 0,.int .u32 0] 234)).drew (X b 6)=M (bX x 0 D d):=(by rw[cL,gQ y3];exact y2)))
  all_goals exact bg
 apply w;clear w C;have L:∃F,(dw r<|aK #[bw bi,eI D,eI an,eI<|pu<|iE<|dK 0 g] 234).drew=F/\I aC a F/\F.heap[G<|H r]?=M (aK #[bw bi,eI D,eI an,eI<|pu<|iE<|dK 0 g] 234 (0,0))/\fA F (G<|H a) (bX E 0 an xc) (iE<|dK 0 g):=⟨_,z,(al.aE _).df z,aQ _ z,bl.aE _⟩;let⟨F,L,u,av,cb⟩:=L;rw[L];have em:G (H a)<=G (H r):=al.D;generalize G (H r)=v at*;clear L bl al bm y2 y3;have eg:=u.D;have dd:=hT.dD (u.dD (aq _) cY) hT.lt;have hS:bA F.drew (X b 6)=M (bX x 0 D d):=by rw[cL];exact u.u t6 id m
 go_wp21;rename_i QQ KK w;refine cX (λj4=>bA j4 (X b 6)=M (bX x 0 D d)) 10 aH ?_;refine dH 0 ?_;iterate 2 (refine fX hS ?_;simp only[ii,eh,ke])
 apply eS;refine dH 3 ?_;iterate 5 (refine fX hS ?_;simp only[ii,eh,ke])
 apply eS;refine aW 2 ?_;intro K2 bo;go_simp;have:=X6 hd x z;have ac:Pow F.drew:=ab.aA (u.df z) id;go_call Dy bi hu ac as bn W3⟨rfl,A⟩;have O:I aC a W3:=(u.df (c:=F.drew) z).t<|I.p (S:=aC) A;have dx:=A.size;have:G (H F)<=G (H W3):=dx;have bt:bA W3 (X b 6)=M (bX x 0 D d):=O.u t6 id m;have ax:W3.heap[v]?=M (aK #[bw bi,eI D,eI an,eI<|pu<|iE<|dK 0 g] 234 (0,0)):=(A.block v<|az av).trans av;have cc:fA W3 (G<|H a) (bX E 0 an xc) (iE<|dK 0 g):=(I.p (S:=aC) A).aZ cb<|λ_ _ bh=>bh;have bx:fA W3 n6 (bX x 0 D d) (gF g):=Q▸O.aZ hd (λ_ _ bh=>bh);refine bo _ _ (λ_=>bt) ?_;refine aW 8 ?_;intro K8 bp;simp only[dl,cF,cO];refine lO (.tmp 34) (.tmp 35) 31 z n6 5 i0 (sC 0) 1 1 underlying31 ds ea eb ec z cg (bX x 0 D d) D ((gF g).map<|Value.int .u8) z (by have h0:=bx;unfold fA at h0;rwa[Q]at h0) (X E 0) an xc ((iE<|dK 0 g).map<|Value.int .u8) z (by rw[cS,hL,tH]) (vP cc.bB) (by intro bi hu;simp only[cC]at hu;obtain⟨g9,_,rfl⟩:=hu;rfl) U U U ?_;intro v4 w4 aV bd;have bE:fA w4 n6 v4 (Ab g):=fA.of aV (by unfold Ab;rw[ai,Q,hL]) (by unfold Ab;rw[bz]);have bc:=I.fV bd;obtain⟨yb,yc,rfl,g1,g2,g3⟩:=vy aV U;have p:I (λbf=>bf=x) a w4:=(O.aT (T:=λbf=>bf=x) cY).aj bc (λbf hk=>by simp[cN]at hk;grind);have ao:bA w4 (X b 6)=M (bX x 0 D d):=p.u t6 ad m;have aD:w4.heap[v]?=M (aK #[bw bi,eI D,eI an,eI<|pu<|iE<|dK 0 g] 234 (0,0)):=(bc.A v (az ax) (λbn=>by simp[cN]at bn;omega)).trans ax;have W:cJ w4 c f:=ap.aA p aI;have K:D+an=y (Ab g):=by unfold Ab;rw[ai,Q,hL]
 have ce:¬f.j c yb:=by intro bh;obtain dv|⟨g9,dv,hy⟩:=bd.f;simp[cN]at dv;grind;simp[cN]at dv;subst dv;have:=ap.lt _ bh;omega
 have P:=Nb (db:=c) (K:=f) (jg bi) yb 0 yc (bs:=(Ab g)) (w:=w4) W hn B (by rw[<-K];omega) (bT.jO aa) (Bytes.bU<|K▸bE.bB) g2 ce<|zN hu;rw[<-K]at P;clear K ce aV bd g1 g2 g3 bx cc ax bt A;refine bp _ _ (λ_=>ao) ?_;simp only[ii,eh];refine aW 9 ?_;intro K9 bq;go_simp;go_call P as bn w5⟨v5,K5,rfl,N⟩;have o:=N.D;have bv:bA w5 (X b 6)=M (bX x 0 D d):=o.aA.u ao bb<|au m p.D;refine bq _ _ (λ_=>bv) ?_;refine aW 10 ?_;intro ei V;go_simp;refine V _ _ wX ?_;refine dG aH ?_ _;show KK _ _;apply w;clear w bo bp bq V;obtain⟨rfl,o5⟩|⟨eo,q,bh,r1,r2,rfl,r3,r4⟩:=N.d;rotate_left;(.have HR:=ak<|show TwP a w5 b c bi x k s l f g (aN<|eW q)from⟨_,K5,z,o.ok,(p.aT (T:=λbf=>f.j c bf\/bf=b\/bf=x) ar).aj o.aA aI,λbf hk=>(o.j bf hk).elim J<|λbh=>bu<|aR p.D bh,o.fx,bu ⟨eo,q,bh,r1,r2,z,r3,r4⟩⟩;clear N o r1 r2 r3 r4 P;go_wp2;go_ret;exact HR);have e:w5.heap[b]?=M (aK #[ee dE,bw n0,eI c0,eI s0,eI m0,bX k s (y<|dK 0 g) l,bX x 0 D d] 323 (0,0)):=by rw[<-Q];exact(o.aA.A b (au m p.D) bb).trans<|(p.A b m ad).trans j
 have ca:w5.heap[v]?=M (aK #[bw bi,eI D,eI an,eI<|pu<|iE<|dK 0 g] 234 (0,0)):=(o.aA.A v (az aD)<|λbh=>bP<|ap.lt _ bh).trans aD;have hQ:(bA w5.drew (X v 0)=M (bw bi)/\bA w5.drew (X v 1)=M (eI D)/\bA w5.drew (X v 2)=M (eI an)/\bA w5.drew (X v 3)=M (eI<|pu<|iE<|dK 0 g)):=by simp only[cL];refine⟨?_,?_,?_,?_⟩<;>(rw[cE ca];rfl)
 clear N j hd hS ao bv t6 hn B hT ab ac dd u O av cb P W bT aa hP;let⟨ch,cj,ck,cl⟩:=hQ;simp only[cL]at ch cj ck cl;have co:=aX e 0;have cp:=aX e 1;have cr:=aX e 2;have cs:=aX e 3;have cu:=aX e 4;have cv:=aX e 6;have cx:=cV (i:=0) e;have cB:=cV (i:=1) e;have cM:=cV (i:=2) e;have cT:=cV (i:=3) e;have db:=cV (i:=4) e;have dc:=cV (i:=6) e;have:v≠b:=U;have:b≠v:=U;go_wp21;rename_i ej cn br;apply PT cn;(.intro bg;(go_region);all_goals exact bg);refine br _ _ ?_;have bk:=ak<|KE cm p o o5 e bb dk dn dr Q hL m;clear co cp cr cs cu cv cx cB cM cT db dc ch cj ck cl e ca o o5 p aD bE bc;go_wp2;go_ret;exact bk
def tX(s:af)(w:Z):cR bN 73 #[aw s] w λe a=>e=aN (eW<|G<|H w)/\a=dw w (aK #[aw s,ay 7] 157):=by
 go_in
 go_wp2;go_ret;simp_all
def tD.lY(w:Z)(h:Nm B):tD (dw w<|aK #[aw B,ay 7] 157) (G<|H w):=⟨7,⟨B,aQ _ rfl,h⟩,cg⟩
def B9(V:jv)(c b:R)(w:Z):Prop:=∀W,la V c aC w W->cR bN 128 #[aJ b] W λe a=>∃s,e=aN (aw s)/\Nm s/\gD (G<|H W) W a
def Q4(V:jv)(e d:R)(c:ld)(B:R->eD)(w:Z):Prop:=∀i(g:i<y c)W,la V e aC w W->V.D W->cR bN 346 #[aJ d,c[i].t] W λf a=>
 (∃b,f=aN (de #[b,ic])/\Bytes a b (B i)/\kj (B i)/\y (B i)<=1000000/\(∀k,cN b=M k->k<G (H a))/\V.D a/\I V.F W a)\/Et V W a V.F f (λv=>de #[aF,v])
def nY.p(bp:R->eD)(P:∃dv o ac A aV D g k ad,mR a c dv o ac A aV D g k ad L/\(c<b/\¬s.F c)/\(D<b/\¬s.F D))(hp:vQ L O)(B:∀V∈L,V.Can)(hu:∀t(F:t<y L)(hc:t<y O)bo,Fz (bp t) L[t] bo->bo=O[t])(hX:s.Xp)(bk:b<=G (H a))(hF:∀V,s.F V->V<b)(K:Q4 s b c L bp a)(Q:B9 s b c a)(n:Steps a)(m:1<b/\¬s.F 1):nY s b c L O a:=by
 refine⟨P,hp.dL,hp.l,hp.S,hp.o,hp.L,hp.f,λt F hc W p bf=>?_⟩;let⟨dv,o,ac,A,aV,D,g,k,ad,an,bm,bh⟩:=P;have N:=an.bM p bm bh;have hn:b<=G (H W):=aR bk p.1;have bq:=aX N.g 5;have g0:bA W (X D<|g+t*5)=M (ay L[t].p):=N.bU _ _<|ju L t 0 F cg;have g1:bA W (X D<|g+t*5+1)=M (ay L[t].D):=by rw[bJ];exact N.bU _ _<|ju L t 1 F cg
 have g2:bA W (X D<|g+t*5+2)=M (ay L[t].A):=by rw[bJ];exact N.bU _ _<|ju L t 2 F cg
 have g3:bA W (X D<|g+t*5+3)=M (aw L[t].eJ):=by rw[bJ];exact N.bU _ _<|ju L t 3 F cg
 have g4:bA W (X D<|g+t*5+4)=M (aw L[t].eP):=by rw[bJ];exact N.bU _ _<|ju L t 4 F cg
 have:(t:Y)<(y L:Y):=U;have:(0:Y)<=(t:Y):=U;have v:=λW'(h:la s b aC W W')=>K t F W'<|p.aj h;have r:=λW'(h:la s b aC W W')=>Q W'<|p.aj h;have w:=n.bM p m;have l:=B _<|aB F;have aU:=hu t F hc;have:∀(x:eN)(a:Z),(Op.unary .not<|aO x).run bN a=.ok (aO<|!x) a:=λ_ _=>rfl;have ao:∀V,b<=V->¬s.F V:=λV B a=>bP<|hF V a;let⟨pos,f,d,first,e,bi⟩:∃pos f d first e,L[t]=⟨pos,f,d,first,e⟩:=⟨_,_,_,_,_,rfl⟩
 rw[bi]at g0 g1 g2 g3 g4 v l aU;simp only at g0 g1 g2 g3 g4;unfold pw.t at v;simp only at v;have u:I aC W (dw W<|aK #[ay pos,ay f,ay d,aw first,aw e] 383):=(cI _ _);have al:=v _ (u.bM hn cY cY)<|s.l bf u cY;have:=(N.lt).2;generalize bp t=BS at*;have bb:=ak (show∀j,I s.F (dw W<|aK #[ay pos,ay f,ay d,aw first,aw e] 383) j->Steps j fromλj ht=>(w.bM (S:=aC) (u.bM (V:=s) hn cY cY) m).bM (S:=aC) (ht.bM (V:=s) dW cY<|λV B _=>B) m);have bc:=ak (show∀j v',I s.F (dw W<|aK #[ay pos,ay f,ay d,aw first,aw e] 383) j->Bytes j v' BS->kj BS->y BS<=1000000->(∀V,cN v'=M V->V<G (H j))->cR bN 347 #[v',ef #[ay pos,ay f,ay d,aw first,aw e]] j λbn g=>TbP j g ⟨pos,f,d,first,e⟩ BS bn fromλj v' ht h1 h2 a b=>IC ⟨pos,f,d,first,e⟩ (bb j ht) h1 h2 a ⟨l.c1,bP l.c2⟩ b);have HN:=ak r;have ba:=ak<|λW'(h:I s.F W W')=>h.bM (V:=s) (n0:=b) (S:=aC) hn cY<|λV B _=>B;clear N an v K Q r w n m hF l hu p;go_in
 go_wp21;go_call al as bn j(⟨v2,rfl,hB,hI,hL,hO,E,i⟩|⟨_,q,rfl,hq,E,i⟩);rotate_left;(.have C:=ak<|(u.aT (T:=s.F) cY).aj i<|λV B=>J B;have x:Cg j (G<|H W) ⟨pos,f,d,first,e⟩:=Cg.aA (aQ _ z) i<|ao _ hn;let⟨k0,k1,k2,k3,k4⟩:=x.bU;simp only at k0 k1 k2 k3 k4;clear i x;go_wp2;(go_ret2);exact bu ⟨hX,q,z,hq,E,C⟩);have x:Cg j (G<|H W) ⟨pos,f,d,first,e⟩:=Cg.aA (aQ _ z) i<|ao _ hn;let⟨k0,k1,k2,k3,k4⟩:=x.bU;simp only at k0 k1 k2 k3 k4;have hz:=i.D;simp at hz;have C:=ak<|(u.aT (T:=s.F) cY).aj i<|λV B=>J B;have aD:=bc j v2 i hB hI hL hO;clear hB hI hL hO i x al;go_wp21;go_call aD as bn w3⟨v',ok,rfl,aa,ap⟩;have av:I s.F W w3:=C.t<|I.p (S:=aC) aa;have r:=HN w3<|ba w3 av;clear aD;cases ok;(.go_wp21;go_call r as bn w4⟨bs,rfl,bl,bg⟩;clear r;go_wp21;go_call tX bs w4 as bn w5⟨rfl,rfl⟩;go_wp2;(go_ret2);have ax:I aC j w4:=(I.p (S:=aC) aa).t<|I.p (S:=aC) bg;exact bu ⟨hX,_,z,tD.lY w4 bl,s.l E (ax.aE _) cY,(C.t ax).aE _⟩);let⟨bo,d1,d2,d3,d4,d5⟩:=ap rfl;obtain rfl:=aU bo ⟨d1,d2,d3,d4⟩;clear ap d1 d2 d3 d4 r;go_wp2;go_ret2
 refine J ⟨v',z,?_,s.l E (I.p (S:=aC) aa) cY,av⟩;obtain⟨h1,⟨h2,h0⟩|⟨br,cp,bd,h2,hb,ab⟩⟩:=d5;exact⟨h1,J ⟨h2,h0⟩⟩;exact⟨h1,bu ⟨br,cp,bd,h2,U,ab⟩⟩
def TW{f g:Y}{e:R}(l:k<18446744073709551616)(q:mR a c d k r f g n T e w L)(m:c<b/\¬s.F c)(o:n<b/\¬s.F n)(i:Pow a)(h:2<b/\¬s.F 2):B9 s b c a:=λW j=>
 (zB c d k l r f g n T e w L (q.bM j m o)<|i.dU<|j.2 _<|J h).mono (by
  rintro u t⟨rfl,p⟩;exact⟨_,z,zN l,p⟩)
def nY.Y1(V:jv)(l w:R)(A p aa:Y)(x q g m c a:R)(k:ld)(b:iG)(ab:Z)(K:mR ab w (ee dE) (0:R) A p aa x q g (bX m c (y<|gF b) a) k)(h:To k b)(o:∀W∈k,W.Can)(hb:Bytes ab (bX m c (y<|gF b) a) (gF b))(F:y (gF b)<=a)(Q:y (gF b)<=1000000000000)(B:w<l/\¬V.F w)(C:x<l/\¬V.F x)(h3:m<l/\¬V.F m)(T:Steps ab)(P:1<l/\¬V.F 1)(N:Pow ab)(L:2<l/\¬V.F 2)(hX:V.Xp)(u:l<=G (H ab))(hF:∀W,V.F W->W<l):nY V l w k b ab:=by
 refine nY.p (λj=>ik<|iH<|b[j]?.getD []) ⟨_,_,_,_,_,_,_,_,_,K,B,C⟩ h.zy o ?_ hX u hF ?_ (TW cg K B C N L) T P;intro j t f d v;(have ac:b[j]?.getD []=b[j]:=by rw[bF f];rfl);simp only[ac]at v;exact v.Xx ⟨z,h.l j t f,h.S _<|aB f,h.o.kE<|eC<|aB f⟩;intro j t al O hD;have f:j<y b:=h.dL▸t;(have ac:b[j]?.getD []=b[j]:=by rw[bF f];rfl);simp only[ac];have ad:=h.l j t f;have e:=h.p j t;have E:=Uh b j f;have s:=h.S _<|aB f;have:=PO s;have:=h.f _<|aB f;refine(WR m c (y<|gF b) a k[j] (K.bM O B C) (e▸ad.D▸E) F (by rw[ad.D];omega) Q).mono ?_;rintro ac W'⟨rfl,d⟩;have D:Bytes al (bX m c (y<|gF b) a) (gF b):=hb.bM O (λW o=>by cases o;exact h3);have i:m<G (H al):=au h3.1<|aR u O.1;refine J ⟨_,z,?_,?_,by rw[iB];omega,λW o=>by cases o;exact au i d.size,V.l hD (I.p (S:=aC) d) cY,I.p d⟩;have v:=D.Ed (n:=k[j].p) (by rw[e];omega);have ht:=Bytes.ou (bs:=(gF b).drop k[j].p) (n:=k[j].D) (dV v) (by simp;rw[e,ad.D];omega);have r:=SZ b [] j f;rw[eu,<-e,<-ad.D]at r;rw[r]at ht;exact ht.dD d (λW o=>by cases o;exact i);unfold ik;exact(Po s).jO<|kj.le 4 _
def JV(K:DK)(u:R)(a:ld)(i:R):eD:=match ij K.ah (jg u),a[i]? with
 |some f,M k=>(f.bB.drop k.p).take k.D
 |_,_=>[]
def KH(h:nz L)(B:R->eD):vQ L (Eg eX.choose B L):=⟨(Ah B L).symm,by rw[Ah];exact h.ne,λi b a=>by rw[Ai];exact(Ij (h.l _<|aB b)<|B i).1,λc a=>(Kh h B c a).1,o7 h B,PU h B,λc a=>bP<|(Kh h B c a).2⟩
def nY.TU(C:Prop)(p:R)(f:DK)(F:fC)(d l W:R)(T:W<18446744073709551616)(n c D:Y)(m g b:R)(o:ae)(a:ld)(aa:Z)(w:mR aa l (aJ p) W n c D m g b o a)(k:nz a)(O:C)(x:d<=G (H aa))(hF:∀ab,F ab->ab<d)(r:l<d/\¬F l)(s:m<d/\¬F m)(B:Steps aa)(A:1<d/\¬F 1)(i:Pow aa)(h:2<d/\¬F 2):nY (Mj C p f F) d l a (Eg eX.choose (JV f W a) a) aa:=by
 refine nY.p (JV f W a) ⟨_,_,_,_,_,_,_,_,_,w,r,s⟩ (KH k _) k.l ?_ O x hF ?_ (TW T w r s i h) B A;intro V j t ac e;rw[Ai,Mu e];rintro V j al Q⟨v,an,N,K,e3,e4⟩;refine(WT T a[V] (w.bM Q r s) N (bP<|(k.l _<|aB j).D)<|i.dU<|Q.2 _<|J h).mono ?_;rintro ao E⟨K',e,f1,f3,hr⟩;have L:(Mj C p f F).D E:=⟨λab a=>au (v ab a) e.aA.D,K',e.ok,K.aj f1,aI,e4.aj e.fx⟩;have S:I F al E:=e.aA.aT aI;obtain⟨v',ad,P,rfl,hb,hv⟩|⟨q,ac,rfl,hq⟩:=hr;(have t:JV f W a V=(ad.bB.drop a[V].p).take a[V].D:=by unfold JV;rw[<-K.1,P,bF j]);have u:=(N.ah ad (eM P).2.1).2.2.1;rw[t];exact J ⟨v',z,hb,(u.pO _).ou _,by have:=(k.l _<|aB j).D;simp;omega,hv,L,S⟩;exact bu ⟨O,q,z,⟨ac,hq⟩,L,S⟩
def zep(w f:Z)(c u:R)(K:DK)(D L h:Y)(i:Ending):Prop:=∃d,pT w f c K d/\wS K d/\(∀k,d.j c k->K.j c k)/\((∃e g a b,i=aN (de #[aJ e,ic])/\mR f e (aJ c) u D L h g 0 a aF b/\nz b/\G (H w)<=e/\G (H w)<=g/\((jN b:Y)=D/\(y (iE b):Y)=L/\pu (iE b)=h)/\∃F,ij K.ah (jg u)=M F/\(F.bB.drop<|jN b).take (y<|iE b)=iE b)\/(∃q,i=aN (de #[ee dE,eW q])/\tD f q))
def Nn(N:R)(hu:N<18446744073709551616)(D L:R)(O:Y)(hD:D<4294967296)(hL:L<4294967296)(hT:Steps a)(an:Pow a)(av:¬f.j b 1)(r:cJ a b f):cR bN 117 #[aJ b,GZ N D L O] a λT v=>zep a v b N f D L O T:=by
 have:IntKind.i64.wrap (D:Y)=D:=by rw[bR];omega
 have:IntKind.i64.wrap (L:Y)=L:=by rw[bR];omega
 have aV:=ak (show∀Q,I aC a Q->cR bN 121 #[aJ b,aw<|jg N,ay D,ay L] Q λT v=>∃w,pT a v b f w/\wS f w/\(∀bh,w.j b bh->f.j b bh)/\I (f.j b) Q v/\((∃x i,T=aN (de #[x,ic])/\fA v (G<|H Q) x i/\kj i/\y i<=100000000000000/\∃aU,ij f.ah (jg N)=M aU/\(aU.bB.drop D).take L=i)\/(∃q,T=aN (de #[aF,eW q])/\tD v q))from by
  intro Q t;have aa:=r.aA t<|λ_ _=>id;go_call GC (jg N) D L aa U (zN hu)as T v⟨w,p,h1,h3,hr⟩;refine⟨w,((pT.bI r).bH t).aj p,h1,h3,p.aA,?_⟩;obtain⟨x,aU,hF,rfl,ho⟩|⟨q,O,rfl,hq⟩:=hr
  .have hf:=r.ah aU (eM hF).2.1;exact J ⟨x,_,z,ho,(hf.2.2.1.pO _).ou _,by have:=hf.2.2.2.2.2;simp;omega,aU,hF,z⟩
  .exact bu ⟨q,z,O,hq⟩)
 have ba:=ak (show∀A x n6 i(w:DK),pT a A b f w->fA A n6 x i->kj i->y i<=100000000000000->cR bN 182 #[x,ef #[bw N,eI D,eI L,eI O]] A λT v=>zaq A v i D L O T from by intro A x n6 i w p ho hi hl;have Q:Steps A:=λbh c=>p.aA.u (hT bh c) av hT.lt;exact IB N D L O Q (fA.bB ho) hi hl (λbh c=>(fA.lt ho bh c).2) ⟨U,U⟩ ⟨U,U⟩);have:∀(x:eN)(a:Z),(Op.unary .not<|aO x).run bN a=.ok (aO<|!x) a:=λ_ _=>rfl;unfold GZ;clear hT av;go_in
 go_wp21;go_call Dy N hu (an.aA (cI aC a) id)as T w2⟨rfl,E⟩;have k:w2.heap[G<|H a]?=M (aK #[bw N,eI D,eI L,eI O] 234 (0,0)):=(E.block _ ar).trans<|aQ _ z;have t:I aC a w2:=(cI aC a).t<|I.p (S:=aC) E;have:=aX k 0;have:=aX k 1;have:=aX k 2;have ap:=aV w2 t;clear E;go_wp21;go_call ap as T A⟨K3,d,s,g,K,bg⟩;have bf:¬f.j b (G<|H a):=λO=>bP<|r.lt _ O;have e:=(K.A _ (az k) bf).trans k;have:=aX e 0;have:=aX e 1;have:=aX e 2;have:=aX e 3;obtain⟨v3,i,rfl,ad,ab,ac,W⟩|⟨q3,rfl,ao⟩:=bg;rotate_left;(.let⟨m,n,o,Q⟩:=js d s g ao;clear d s g ao K e;go_wp2;(go_ret2);exact⟨K3,m,n,o,bu ⟨q3,z,Q⟩⟩);have ax:=ba A v3 _ i K3 d ad ab ac;let⟨P,m,n,o⟩:=js e d s g;clear e d s g K ad ab ac ap;go_wp21;go_call ax as T w4⟨v4,ok,rfl,u,al⟩;have l:=(u.A _ (az P) id).trans P;have:=aX l 0;have:=aX l 1;have:=aX l 2;have:=aX l 3;clear l ax;cases ok;(.go_wp21;go_call tX (jg N) w4 as T Q⟨rfl,rfl⟩;go_wp2;(go_ret2);exact⟨K3,(ag m).bH<|u.aE _,n,o,bu ⟨_,z,tD.lY w4<|zN hu⟩⟩);let⟨j,hP,hS,V,B,C,F⟩:=al rfl;have bc:((jN j:Y)=D/\(y (iE j):Y)=L/\pu (iE j)=O)/\∃aU,ij f.ah (jg N)=M aU/\(aU.bB.drop<|jN j).take (y<|iE j)=iE j:=by let⟨aU,Q,q2⟩:=W;rw[V]at B C q2;refine⟨⟨hS,C,B⟩,aU,Q,?_⟩;rwa[show jN j=D by omega,show y (iE j)=L by omega]
 clear V B C W;have:=hP.ne;have:=hP.dL;obtain⟨bb,c,rfl,a1,a2,a3⟩:=vy F U;have bd:mR (dw w4<|aK #[aJ b,bw N,eI D,eI L,eI O,bX bb 0 (y j) c,aF] 323) (G<|H w4) (aJ b) N D L O bb 0 c aF j:=by refine⟨aQ _ z,?_,U,a3,U⟩;intro bk bl hj;obtain⟨h1,⟨h2,h0⟩|⟨b',aa,Q,h2,_,bi⟩⟩:=dQ<|bC F<|aK #[aJ b,bw N,eI D,eI L,eI O,bX bb 0 (y j) c,aF] 323;omega;grind
 clear hS F al;go_wp2;go_ret2
 have d:=ag m;have aD:=d.aA.D;exact⟨K3,d.bH<|u.aE _,n,o,J ⟨G<|H w4,bb,c,j,z,bd,hP,aR aD u.D,aR aD a1,bc⟩⟩
structure cH where
 tb:R
 ks:ld
 cs:iG
 cK:R
abbrev dI:=cy cH
def cH.D(t:cH):ae:=aJ t.tb
def cH.dq(t:cH):dB:=t.cs.flatten
def iq(a:ld):af:=(a.head?.map pw.eJ).getD ⟨#[]⟩
def CO(h:0<y L):iR L=(L[y L-1]'U).eP:=by
 unfold iR;rw[List.getLast?_eq_getElem?,bF U];rfl
def AS(h:0<y L):iq L=(L[0]'h).eJ:=by
 unfold iq;cases L with
 |nil=>simp at h
 |cons k r=>rfl
def Qv(w:Z)(t:cH):Prop:=∃i b e c g h d a f,mR w t.tb i b e c g h d a f t.ks
def Qv.eJ{t:cH}(h:Qv a t):cR bN 184 #[t.D] a λn k=>n=aN (aw<|iq t.ks)/\k=a:=by
 let⟨m,c,g,d,j,l,e,b,i,f⟩:=h;rw[AS f.ne];exact Wm f
def Qv.eP{t:cH}(h:Qv a t):cR bN 183 #[t.D] a λn k=>n=aN (aw<|iR t.ks)/\∃q,k=a.drewN q:=by
 let⟨m,c,g,d,j,l,e,b,i,f⟩:=h;rw[CO f.ne];exact Zd f
def mR.dU{w w':Z}{e a g:Y}{f:ae}(h:mR w c d r e a g k n T f L)(i:w'.heap[c]?=w.heap[c]?)(j:w'.heap[k]?=w.heap[k]?):mR w' c d r e a g k n T f L:=⟨i.trans h.g,λm u l=>(dZ (w:=w) j).trans<|h.bU m u l,h.ne,h.le,h.f⟩
def Qv.df{w w':Z}{t:cH}(h:Qv w t)(o:w'.heap=w.heap):Qv w' t:=by
 let⟨m,d,i,e,k,l,g,b,j,n⟩:=h;exact⟨m,d,i,e,k,l,g,b,j,n.dU (by rw[o])<|by rw[o]⟩
def Qv.dD{t:cH}(h:Qv a t)(m:gD (G<|H a) a e):Qv e t:=by
 let⟨o,c,g,d,k,n,f,b,i,j⟩:=h;exact⟨o,c,g,d,k,n,f,b,i,j.dU (m.block _ j.lt.1)<|m.block _ j.lt.2⟩
structure jY(w:Z)(v:ae)(ts:cy cH):Prop where
 bV:Row w 1 v (y ts) (ts.map cH.D)
 lt:∀k,cN v=M k->k<G (H w)
 bZ:∀t∈ts,Qv w t
 f:y ts<=20000000000
def jY.dD{f:cy cH}(h:jY a d f)(b:gD (G<|H a) a e):jY e d f:=by
 refine⟨(I.p (S:=aC) b).bV h.bV<|λk c=>⟨id,h.lt k c⟩,λk c=>au (h.lt k c) b.size,λt g=>(h.bZ t g).dD b,h.f⟩
def Dk(a:cy cH):Prop:=a.Pairwise<|λb c=>kH (iR b.ks) (iR c.ks)=cz
def OP{k bk:R}{c:cy cH}(f:af)(h:jY a d c)(m:fF a k d 106)(l:fF a bk (aw f) 9)(i:R)(r:i<y c):cR bN 282 #[ay i,aJ k,aJ bk] a λo j=>o=aN (aO<|!kH (iR c[i].ks) f)/\∃q,j=a.drewN q:=by
 obtain⟨g,⟨_,u⟩|⟨t,e,n,rfl,_,p⟩⟩:=h.bV;omega;have s:bA a (X t<|e+i)=M c[i].D:=by simp_all
 have b:∀W,W.heap=a.heap->cR bN 183 #[c[i].D] W λo j=>o=aN (aw<|iR c[i].ks)/\∃q,j=W.drewN q:=λW e=>((h.bZ _<|aB r).df e).eP;have:=m.u;have:=l.u;have:=LZ;have:=h.f;have:(i:Y)<(y c:Y):=U;have:(0:Y)<=(i:Y):=U;unfold kH;unfold cH.D at s b;generalize iR c[i].ks=w at*;generalize c[i].tb=v at*;clear h m l g p;go_in
 go_wp21;go_quiet(first|(go_at_call 183;refine Calls.quiet_of (b _ z)))
 go_wp2;go_ret;exact⟨z,nq,z⟩
variable{l v:dI}
def vQ.t(h:vQ L O):0<y L:=by rw[h.dL];exact h.ne
def vQ.A(h:vQ L O):∃x∈O.flatten,x.D=iR L:=by
 have b:=h.t;have a:y L-1<y O:=bP h.dL;have o:=h.l (y L-1) U a;have:=o.ne;exact⟨_,dO.2 ⟨_,aB a,aB<|show y O[y L-1]-1<y O[y L-1]by omega⟩,by rw[CO b,o.eP]⟩
def vQ.p(h:vQ L O):∃x∈O.flatten,x.D=iq L:=by
 have b:=h.t;have a:0<y O:=bP h.dL;have o:=h.l 0 U a;exact⟨_,dO.2 ⟨_,aB a,aB o.ne⟩,by rw[AS b,o.eJ]⟩
def vQ.D(h:vQ L O)(f:S∈O.flatten):kH (iR L) S.D=bD:=by
 have e:=h.t;have b:y L-1<y O:=bP h.dL;have o:=h.l (y L-1) U b;let⟨j,c,a⟩:=dO.1 f;obtain⟨i,d,rfl⟩:=dJ c;rw[CO e,o.eP];obtain g|g:=iU i<|y L-1;exact td<|cW.1 h.L i _ d b g S a _ ar;have:i=y L-1:=bP h.dL;subst this;exact gG.FJ (h.o.kE<|eC<|aB b) o.ne a
def vQ.xU(h:vQ L O)(g:S∈O.flatten):kH S.D (iq L)=bD:=by
 have f:=h.t;have b:0<y O:=bP h.dL;have o:=h.l 0 U b;let⟨j,c,a⟩:=dO.1 g;obtain⟨i,e,rfl⟩:=dJ c;rw[AS f,o.eJ];obtain d|d:=fO i;subst d;exact gG.xU (h.o.kE<|eC<|aB b) o.ne a;exact td<|cW.1 h.L 0 i b e d _ (aB o.ne) S a
def gz(a:dI):dB:=(a.map cH.dq).flatten
def uP(t:cH)(a:dI):gz (t::a)=t.dq++gz a:=by simp[gz]
def Fb(a b:dI):gz (a++b)=gz a++gz b:=by simp[gz]
def lZ:S∈gz l↔∃t∈l,S∈t.dq:=by
 unfold gz;grind
structure ma(ts:dI):Prop where
 p:∀t∈ts,vQ t.ks t.cs
 o:gG (gz ts)
 L:(ts.map cH.dq).Pairwise lJ
def ma.D(h:ma l)(e:b<y l)(f:c<y l)(d:b<c){a:E}(g:S∈l[b].dq)(i:a∈l[c].dq):kH S.D a.D=cz:=by
 exact cW.1 h.L b c (dV e) (dV f) d S (dV g) a<|dV i
def ma.A(h:ma l):Dk l:=by
 refine cW.2<|λj k b c a=>?_;let⟨x,f,d⟩:=(h.p _<|aB b).A;let⟨i,g,e⟩:=(h.p _<|aB c).A;rw[<-d,<-e];exact h.D b c a f g
def ma.bZ(h:ma l){t:cH}(a:t∈l):gG t.dq:=h.o.kE<|eC aI
structure su(ts:dI)(key:af)(k:R):Prop where
 le:k<=y ts
 da:∀i(hi:i<y ts),i<k->kH (iR ts[i].ks) key=cz
 xR:∀i(hi:i<y ts),k<=i->kH (iR ts[i].ks) key=bD
def ma.Eb(h:ma l)(c:af)(k:su l c b):(((l.drop b).map cH.dq).map<|iY c).flatten=iY c (gz l):=by
 have e:gz l=gz (l.take b)++gz (l.drop b):=by rw[<-Fb,du]
 have f:iY c (gz<|l.take b)=[]:=by unfold iY;rw[oq];intro x n;let⟨t,m,d⟩:=lZ.1 n;obtain⟨o,p,rfl⟩:=dJ m;rw[oY]at d;have a:o<b/\o<y l:=aI;have i:=k.da o a.2 a.1;have j:=(h.p _<|aB a.2).D d;rw[DX j i];simp
 have g:∀a:iG,(a.map<|iY c).flatten=iY c a.flatten:=by
  intro a;induction a with
  |nil=>rfl
  |cons i r d=>simp only[bO,di,d];unfold iY;rw[mB]
 rw[g,e];unfold iY at*;rw[mB,f,ep];rfl
def ma.CU(h:ma l)(g:su l B b)(x:E)(n:x∈gz l)(c:x.D=B):∃r:b<y l,x∈l[b].dq:=by
 let⟨t,i,d⟩:=lZ.1 n;obtain⟨p,f,rfl⟩:=dJ i;have e:=(h.p _ i).D d;obtain j|j|j:=mU p b;have:=DX e<|g.da p f j;rw[c,jr]at this;cases this;grind
 have a:b<y l:=U;let⟨q,o,k⟩:=(h.p _<|aB a).A;have m:=g.xR b a<|aq _;have:=h.D a f j o d;rw[k,c,m]at this;cases this
def ma.AT(h:ma l)(b:su l B (y l))(d:Y):kD d (gz l) B=dE:=by
 refine tB<|λx c a=>?_;let⟨e,_⟩:=h.CU b x c a;omega
def ma.Ec(h:ma l)(e:su l B b)(d:b<y l)(c:Y):kD c (gz l) B=kD c l[b].dq B:=by
 have:=CV (cs:=l.map cH.dq) (k:=B) (i:=b) (dV d) (λx f a=>by let⟨_,g⟩:=h.CU e x f a;grind) h.L c;unfold gz;grind
def BN(b:af)(h:jY a d l)(Q:Dk l):cR bN 255 #[d,aw b] a λK S=>∃k:R,K=aN (ay k)/\su l b k/\gD (G<|H a) a S:=by
 have o:gD (G<|H a) a (dw (dw a<|aK #[d] 106)<|aK #[aw b] 9):=((Below.refl _ a).alloc (aq _) _).alloc ar _;have O:=h.dD o;have:=h.f
 have r:=BD (f:=282) #[aJ<|G<|H a,aJ<|G (H a)+1] (y l) (λi=>if j:i<y l then !kH (iR l[i].ks) b else cz) (dw (dw a<|aK #[d] 106)<|aK #[aw b] 9) (enters_of func282 aH z) U (by
  intro T L B p P;have n:T<y l:=U;simp only[p,n,Ay]at P|-;obtain V|V:=oo B
  .have:=cW.1 Q T L n p V;grind[mz]
  grind)
  (by
   intro i j W g;have A:=O.dD g;have C:fF W (G (H a)) d 106:=(g.block _ dW).trans (fF.aE (aQ _ z) _);have D:fF W (G (H a)+1) (aw b) 9:=(g.block _ ar).trans (aQ _ ar);go_call OP b A C D i j as K W'⟨rfl,q,rfl⟩;simp only[j,Ay];exact⟨trivial,below_drewN (Below.refl _ _) _⟩)
 have:=h.bV.2;have E:(d=aF/\y l=0)\/∃L c m,d=bX L c (y l) m:=by grind
 have s:∀(K:Ending)(F:Z)(k:R),k<=y l->(∀i,i<k->(if j:i<y l then !kH (iR l[i].ks) b else cz)=bD)->(∀i,k<=i->i<y l->(if j:i<y l then !kH (iR l[i].ks) b else cz)=cz)->su l b k:=by intro K F k e t w;refine⟨e,λi j g=>?_,λi j g=>?_⟩;(have:=t i g;grind);grind
 obtain⟨rfl,N⟩|⟨L,c,m,rfl⟩:=E;(.obtain rfl:l=[]:=bG N;(go_in);(go_wp2_with(go_at_call 247;refine r.mono ?_;rintro K F⟨k,rfl,e,t,w,x⟩;have u:=ak e;have v:=ak x));go_ret;have e:=ag u;refine⟨k,z,⟨e,ar,ar⟩,o.trans<|v.mono o.size⟩);(go_in);(go_wp2_with(go_at_call 247;refine r.mono ?_;rintro K F⟨k,rfl,e,t,w,x⟩;have u:=ak e;have g:=ak t;have n:=ak w;have v:=ak x));go_ret;exact⟨k,z,s (aN ic) a k u g n,o.trans<|v.mono o.size⟩
structure uE(V:jv)(n0:R)(v:ae)(ts:dI)(w:Z):Prop where
 bV:Row w 1 v (y ts) (ts.map cH.D)
 l:∀k,cN v=M k->k<n0/\¬V.F k
 bZ:∀t∈ts,nY V n0 t.tb t.ks t.cs w
 L:ma ts
 f:y ts<=20000000000
def nY.XE{t:cH}(h:nY s b t.tb t.ks t.cs a):Qv a t:=by
 let⟨l,d,g,e,j,k,f,c,i,m,_⟩:=h.D;exact⟨l,d,g,e,j,k,f,c,i,m⟩
def uE.D(h:uE s c d l a)(f:c<=G (H a)):jY a d l:=⟨h.bV,λk e=>au (h.l k e).1 f,λt g=>(h.bZ t g).XE,h.f⟩
def Row.bM{V:jv}{n0:R}{S:fC}(h:Row a b d c Q)(m:la V n0 S a e)(n:∀o,cN d=M o->o<n0/\¬V.F o):Row e b d c Q:=by
 let⟨k,i⟩:=h;refine⟨k,?_⟩;obtain i|⟨p,f,g,rfl,j,l⟩:=i;exact J i;exact bu ⟨p,f,g,z,j,λk u i=>m.u (bu<|n p z)<|l k u i⟩
def uE.bM{V:jv}{n0:R}(h:uE V n0 d l a)(b:la V n0 aC a e):uE V n0 d l e:=⟨h.bV.bM b h.l,h.l,λt c=>(h.bZ t c).bM b,h.L,h.f⟩
def uE.u{j b a c n:R}{w:Z}(h:uE s j (bX b a n c) l w){i:R}(m:i<y l):bA w (X b<|a+i)=M l[i].D:=by
 obtain⟨_,⟨e,_⟩|⟨b',g,d,e,_,k⟩⟩:=h.bV;cases e;grind
def uE.fS(h:uE s b d l a):(d=aF/\l=[])\/∃f c e,d=bX f c (y l) e:=by
 obtain⟨g,j⟩|⟨f,c,e,g,_⟩:=h.bV.2;grind
 grind
theorem Pd(g:R)(j:af)(h:uE s b d l a)(O:fF a c d 106)(L:fF a k (ay g) 3)(N:fF a n (aw j) 9)(hD:s.D a)(r:b<=G (H a))(hF:∀g,s.F g->g<b)(C:b<=c)(A:b<=k)(B:b<=n)(m:R)(w:g+m<y l):cR bN 339 #[ay m,aJ c,aJ k,aJ n] a λF f=>(∃u o,F=aN (de #[u,ic])/\kA s b u (iY j l[g+m].dq) o f/\s.D f/\I s.F a f/\(∀g,o g->G (H a)<=g))\/∃aa,Et s a f s.F F (λd=>de #[aa,d]):=by
 obtain⟨_,h0⟩|⟨E,e,p,rfl⟩:=h.fS;grind
 have c1:=O.u;have c2:=L.u;have c3:=N.u;have D:=h.u w;have K:=(h.l E z);have:=h.f;have q:cR bN 340 #[l[g+m].D,aw j] a.drew λF f=>∃u o,F=aN u/\kA s b u (iY j l[g+m].dq) o f/\s.D f/\I s.F a.drew f/\(∀g,o g->G (H a)<=g):=EC (n0:=b) (j8:=l[g+m].tb) (ks:=l[g+m].ks) (cs:=l[g+m].cs) j ((h.bZ _<|aB w).bM ⟨aq _,λ_ _=>rfl⟩) (s.l hD (cf aC a) cY) r hF
 have v:=ak (show∀f,I s.F a.drew f->bA f (X c 0)=M (bX E e (y l) p)/\bA f (X k 0)=M (ay g)/\bA f (X E<|e+(g+m))=M l[g+m].D/\bA f (X n 0)=M (aw j)from by
  intro f i;have x:∀a,b<=a->¬s.F a:=aI;exact⟨i.u c1 (x _ C) (az O),i.u c2 (x _ A) (az L),i.u D K.2 (au K.1 r),i.u c3 (x _ B) (az N)⟩)
 have hW:I s.F a a.drew:=cf _ _;generalize l[g+m]=S at*;let⟨t,hm⟩:∃t,g+m=t:=⟨_,rfl⟩;rw[hm]at D v w;have:(g:Y)+(m:Y)=(t:Y):=U;have:(t:Y)<(y l:Y):=U;have:(0:Y)<=(t:Y):=U;have:t<20000000000:=U;have:IntKind.i64.wrap (t:Y)=(t:Y):=by rw[bR];omega
 have:wrap64 (t:Y)=(t:Y):=by unfold wrap64;omega
 unfold cH.D at D v q;generalize S.dq=al at*;generalize S.tb=P at*;go_in
 go_wp21
 go_region_held3(λa=>bA a (X c 0)=M (bX E e (y l) p)/\bA a (X k 0)=M (ay g)/\bA a (X E<|e+t)=M (aJ P)/\bA a (X n 0)=M (aw j)) (first|assumption|go_keep) (first
  |(go_at_call 340;refine q.mono ?_;rintro F w1⟨v1,S1,rfl,r1,r2,Q,r4⟩;have:=v w1 Q;have T:=ak r1;have V:=ak r2;have W:=ak Q;have R4:=ak r4))
 go_wp2;go_ret2
 exact J ⟨v1,S1,z,T,V,hW.aj W<|λ_ c=>J c,R4⟩
def YY(V:jv)(a:R)(v:ae)(g d e k:R)(h:dI)(q:af):Bm V a (((h.drop k).map cH.dq).map<|iY q)where
 f:=339
 cb:=#[aJ g,aJ d,aJ e]
 A:=λW=>uE V a v h W/\(fF W g v 106/\fF W d (ay k) 3/\fF W e (aw q) 9)/\(a<=g/\a<=d/\a<=e)/\a<=G (H W)/\∀k,V.F k->k<a
 S:=λx=>x=g\/x=d\/x=e
 o:=enters_of func339 aH z
 uh:=by
  rintro t s w⟨n,⟨i,j,m⟩,p,c,hF⟩r;have b:k+t<y h:=aI;rw[mw,mw,rP];grind[Pd]
 l:=by
  rintro W r⟨n,⟨i,j,m⟩,p,c,hF⟩b;exact⟨n.bM<|b.aT cY,⟨i.bM b<|J z,j.bM b<|bu<|J z,m.bM b<|bu<|bu z⟩,p,aR c b.1,hF⟩
 lt:=by
  grind
def VP(g:af)(h:uE s b d l a)(hD:s.D a)(i:b<=G (H a))(hF:∀k,s.F k->k<b):cR bN 336 #[d,aw g] a λw n=>∃r o,w=aN r/\kA s b r (iY g<|gz l) o n/\s.D n/\I s.F a n/\(∀k,o k->G (H a)<=k):=by
 have u:gD (G<|H a) a (dw (dw a<|aK #[d] 106)<|aK #[aw g] 9):=((Below.refl _ a).alloc (aq _) _).alloc ar _;have v:=BN g ((h.D i).dD u) h.L.A;have:=h.f;have F:=h.fS;have W:=ak (show∀(e:Z)(k:R),gD (G<|H<|dw (dw a<|aK #[d] 106)<|aK #[aw g] 9) (dw (dw a<|aK #[d] 106)<|aK #[aw g] 9) e->su l g k->cR bN 338 #[ay ((y l-k:R):Y),.func (.func 339) #[] #[aJ<|G<|H a,aJ<|G<|H e,aJ<|G (H a)+1]] (dw e<|aK #[ay k] 3) λw n=>∃r o,w=aN r/\kA s b r (iY g<|gz l) o n/\s.D n/\I s.F a n/\(∀k,o k->G (H a)<=k)from by intro e k c p;have q:=c.size;simp at q;have j:I aC a (dw e<|aK #[ay k] 3):=(((I.p (S:=aC) u).t<|I.p (S:=aC) c).aE _);have K:fF e (G<|H a) d 106:=(c.block _ dW).trans<|fF.aE (aQ _ z) _;have L:fF e (G (H a)+1) (aw g) 9:=(c.block _ ar).trans<|aQ _ ar;have E:uE s b d l (dw e<|aK #[ay k] 3):=h.bM<|j.bM i cY cY;have f:=Kn (YY s b d (G<|H a) (G<|H e) (G (H a)+1) k l g) (dw e<|aK #[ay k] 3) ⟨E,⟨K.aE _,aQ _ z,L.aE _⟩,⟨i,U,U⟩,aR i j.D,hF⟩ (aR i j.D) hF dW;have hl:y (((l.drop k).map cH.dq).map<|iY g)=y l-k:=ar;rw[hl]at f;go_call f as w n⟨r,o,rfl,hg,hb,hS⟩;rw[h.L.Eb g p]at hg;have m:=j.t<|I.p (S:=aC) hb;refine⟨r,o,z,hg,s.l hD m cY,m.aT cY,λac hx=>?_⟩;have:=j.D;obtain(aa|aa|aa)|aa:=hS ac hx<;>omega);have HY:=ak (show∀e,gD (G<|H<|dw (dw a<|aK #[d] 106)<|aK #[aw g] 9) (dw (dw a<|aK #[d] 106)<|aK #[aw g] 9) e->bA e (X (G<|H a) 0)=M d/\G (H a)<G (H e)from by intro e c;have q:=c.size;simp at q;exact⟨fF.u (t:=106)<|(c.block _ dW).trans<|fF.aE (aQ _ z) _,U⟩);obtain⟨rfl,rfl⟩|⟨ad,N,ab,rfl⟩:=F;(·(go_in);go_wp21;go_call v as w e⟨k,rfl,p,c⟩;obtain rfl:k=0:=Nat.le_zero.1 p.le;have f:=W e 0 c p;let⟨y1,y2⟩:=HY e c;go_wp21;go_call f as w w2⟨V,D,rfl,O,P,Q,T⟩;have x:=ak O;have A:=ak P;have B:=ak Q;have C:=ak T;go_wp2;go_ret;exact⟨V,D,z,x,A,B,C⟩);(go_in);go_wp21;go_call v as w e⟨k,rfl,p,c⟩;have:=p.le;have f:=W e k c p;let⟨y1,y2⟩:=HY e c;let⟨j,m⟩:∃j,y l-k=j:=⟨_,rfl⟩;rw[m]at f;have:(y l:Y)-(k:Y)=(j:Y):=U;have:j<=20000000000:=U;(have:IntKind.i64.wrap (j:Y)=(j:Y):=by rw[bR];omega);go_wp21;go_call f as w w2⟨V,D,rfl,O,P,Q,T⟩;have x:=ak O;have A:=ak P;have B:=ak Q;have C:=ak T;go_wp2;go_ret;exact⟨V,D,z,x,A,B,C⟩
def QZ(h:su l B b)(a:su l B c):b=c:=by
 obtain e|e|e:=mU b c;have f:=a.da b (bP a.le) e;have d:=h.xR b (bP a.le)<|aq _;rw[f]at d;cases d;exact e;have f:=h.da c (bP h.le) e;have d:=a.xR c (bP h.le)<|aq _;rw[f]at d;cases d
def Gf:∀{f:dI},Dk f->∀a,∃k,su f a k
 |[],_,_=>⟨0,aq _,ar,ar⟩
 |t::f,h,a=>by
  let⟨j,g⟩:=dp.1 h;cases e:kH (iR t.ks) a with
  |true=>
   let⟨k,d⟩:=Gf g a;refine⟨k+1,wZ d.le,λi b c=>?_,λi b c=>?_⟩
   .cases i with
    |zero=>exact e
    |succ i=>exact d.da i (dV b) U
   .cases i with
    |zero=>omega
    |succ i=>exact d.xR i (dV b) U
  |false=>
   refine⟨0,bQ _,ar,λi b _=>?_⟩;grind[getElem_mem,mz]
def VQ(c:af)(t:Y)(h:uE s b d l a)(hD:s.D a)(k:b<=G (H a))(hF:∀r,s.F r->r<b):cR bN 335 #[d,aw c,bw t] a λO A=>Up s a A (kD t (gz l) c) O:=by
 let⟨r,v⟩:=Gf h.L.A c;have o:gD (G<|H a) a (dw a<|aK #[aw ⟨#[]⟩,aw ⟨#[]⟩,aO bD,bw 0] 223):=(Below.refl _ a).alloc (aq _) _;have:=h.f;have K:cR bN 255 #[d,aw c] (dw a<|aK #[aw ⟨#[]⟩,aw ⟨#[]⟩,aO bD,bw 0] 223) λO A=>O=aN (ay r)/\gD (G<|H a) a A/\jQ A (G<|H a) zE:=by go_call BN c ((h.D k).dD o) h.L.A as O A⟨w,rfl,D,g⟩;obtain rfl:r=w:=QZ v D;exact⟨z,o.trans<|g.mono o.size,(g.block _ ar).trans<|aQ _ z⟩
 have F:∀al,b<=al->¬s.F al:=aI;let⟨C,B,f⟩:=eU F (λW(n:gD (G<|H a) a W)=>s.l hD (I.p (S:=aC) n) cY)<|λW(n:gD (G<|H a) a W)=>h.bM<|(I.p (S:=aC) n).bM k cY cY;by_cases p:r<y l;(.obtain⟨_,h0⟩|⟨an,x,aa,rfl⟩:=h.fS;(grind);rw[h.L.Ec v p t];have HC:=ak<|λW(n:gD (G<|H a) a W)=>(f W n).u p;have V:=ak<|λW(n:gD (G<|H a) a W)=>ED (n0:=b) (j8:=l[r].tb) (ks:=l[r].ks) (cs:=l[r].cs) c t ((f W n).bZ _<|aB p) (B W n) (aR k n.size) hF;have D:∀W,gD (G<|H a) a W->cR bN 337 #[aJ<|l[r].tb,aw c,bw t] W λO A=>Up s W A (kD t l[r].dq c) O:=ag V;(have:((r:Y)==(y l:Y))=bD:=by simp;omega);have:(r:Y)<(y l:Y):=U;have:(0:Y)<=(r:Y):=U;unfold cH.D at HC;generalize kD t l[r].dq c=fe at*;generalize l[r].tb=j8 at*;(go_in);(go_wp2_with(go_at_call 255;refine K.mono ?_;rintro O N⟨rfl,j,e⟩;have:=HC N j;have ad:=D N j;have u:=ak e;have m:=ak j));go_call ad as O w2⟨⟨Q,T,xd,P⟩,ok,ev,rfl,ac,ab,L⟩;have g:=u.aA L<|C _ k;let⟨z0,z1,z2,z3⟩:=g.bU;have y0:=g.bS (i:=0);have y1:=g.bS (i:=1);have y2:=g.bS (i:=2);have y3:=g.bS (i:=3);unfold E.t;simp only;go_wp2;refine ci (gZ z _ _ (G<|H a) ⟨Q,T,xd,P⟩ _ _ z<|g.gL ⟨Q,T,xd,P⟩) z ?_;have w:=kr w2 (G<|H a) ⟨Q,T,xd,P⟩;exact⟨⟨Q,T,xd,P⟩,ok,ev,z,ac.imp id<|λ⟨a,b,c,q,d,e⟩=>⟨a,b,c,q,d,e.aA w g.nZ⟩,s.l ab w (λal hx=>by subst hx;exact C _ k),((I.p (S:=s.F) m).aj L<|λr v=>J v).aj w ar⟩);(.have D:r=y l:=bP v.le;subst D;have g:=h.L.AT v t;rw[g];obtain⟨rfl,rfl⟩|⟨an,x,aa,rfl⟩:=h.fS;(all_goals clear h v hD hF F o g p f;(go_in);(go_wp2_with(go_at_call 255;refine K.mono ?_;rintro O N⟨rfl,j,e⟩;let⟨z0,z1,z2,z3⟩:=e.bU;have:=e.bS (i:=0);have:=e.bS (i:=1);have:=e.bS (i:=2);have:=e.bS (i:=3);have u:=ak e;have m:=ak j));refine ci (gZ z _ _ (G<|H a) zE _ _ z<|u.gL zE) z ?_;have w:gD (G<|H a) a (yp N (G<|H a) zE):=m.trans<|(kr N (G<|H a) zE).dD m.size<|λal hx=>U;exact⟨zE,bD,ic,z,J z,B _ w,I.p w⟩))
def Cr{w:Z}(t:cH)(h:Qv w t)(A:nD t.ks<=20000000000):cR bN 205 #[t.D] w λS N=>S=aN (ay (nD t.ks:R))/\gD (G<|H w) w N:=by
 let⟨Q,k,v,o,L,q,b,g,x,f⟩:=h;let⟨V,a,P,dz⟩:=t;simp only at A f|-;unfold cH.D;simp only;have:=aX f.g 5;have m:=f.lt;have:=f.f;have u:=ak f.bU;go_in
 go_wp2;go_loopw [3,11] (λc i wr=>∃n:R,n<=y a/\i=ay n/\c=ay (nD (a.take n):R)/\gD (G<|H w) w wr) (λ_ i _=>y a-(intOf i).toNat)
 exact⟨0,bQ _,z,z,Below.refl _ _⟩;obtain⟨n,T,rfl,rfl,i⟩:=hrel;have:=Kk a n;have c:=Kk a<|n+1;by_cases j:n<y a;(.have e:∀c v,c<5->(pw.bU a[n])[c]?=M v->bA wr (X q<|b+n*5+c)=M v:=λc v d f=>(i.cell (p:=(X q<|b+n*5+c)) m.2).trans (by rw[bJ];exact u _ _<|(ju a n c j d).trans f);rw[aG j,Ei]at c;have d:=ak (show nD (a.take<|n+1)=nD (a.take n)+a[n].A by rw[aG j,Ei]);generalize a[n]=W at*;let⟨pos,s,l,first,r⟩:=W;have C:=e 0 _ U z;have D:=e 1 _ U z;have E:=e 2 _ U z;have F:=e 3 _ U z;have K:=e 4 _ U z;simp only[mf]at C D E F K;simp only at c d;generalize nD (a.take n)=O at*;have B:=i.size;go_wp2;go_roundw;(.exact⟨n+1,j,dM,by rw[ag d];go_num,i.alloc B _⟩);simp[intOf];omega);have d:n=y a:=U;subst d;rw[cQ];go_wp2;go_ret;exact⟨z,i⟩
def lU(a:dI):R:=(a.map<|λt=>nD t.ks).sum
def Kj(a:dI)(t:cH):lU (a++[t])=lU a+nD t.ks:=by simp[lU]
def Ki(a:dI)(n:R):lU (a.take n)<=lU a:=by
 have h:=cD (λl=>(l.map (λt:cH=>nD t.ks)).sum)<|du n a;simp only[bz,eY]at h;unfold lU;omega
def p6{t:cH}(h:t∈l):nD t.ks<=lU l:=by
 induction l with
 |nil=>cases h
 |cons b r a=>
  unfold lU at*;grind
def jY.u{b a c n:R}{w:Z}(h:jY w (bX b a n c) l){i:R}(k:i<y l):bA w (X b<|a+i)=M l[i].D:=by
 obtain⟨_,⟨e,_⟩|⟨b',g,d,e,_,j⟩⟩:=h.bV;cases e;grind
def jY.fS(h:jY a d l):(d=aF/\l=[])\/∃e b c,d=bX e b (y l) c/\y l<=c:=by
 obtain⟨f,g⟩|⟨e,b,c,f,g,_⟩:=h.bV.2;grind
 grind
def BQ(h:jY a d l)(v:lU l<=20000000000):cR bN 216 #[d] a λt s=>t=aN (ay (lU l:R))/\gD (G<|H a) a s:=by
 have:=h.f;obtain⟨rfl,rfl⟩|⟨B,k,q,rfl,_⟩:=h.fS;(.clear h;(go_in);go_wp2;(go_loopw [3,8] (λp m wr=>m=ay 0/\p=ay 0/\wr=a) (λ_ _ _=>0));(grind);obtain⟨rfl,rfl,rfl⟩:=hrel;go_wp2;go_ret;exact⟨z,Below.refl _ _⟩);have o:=ak h;(go_in);go_wp2;(go_loopw [3,8] (λp m wr=>∃n:R,n<=y l/\m=ay n/\p=ay (lU (l.take n):R)/\gD (G<|H a) a wr) (λ_ m _=>y l-(intOf m).toNat));exact⟨0,bQ _,z,z,Below.refl _ _⟩;obtain⟨n,w,rfl,rfl,g⟩:=hrel;have:=Ki l n;have e:=Ki l<|n+1;by_cases b:n<y l;(.have c:=o.dD g;have r:=c.u b;rw[aG b,Kj]at e;have i:=ak (show lU (l.take<|n+1)=lU (l.take n)+nD l[n].ks by rw[aG b,Kj]);have f:=Cr (w:=wr) l[n] (c.bZ _<|aB b)<|bP<|p6<|aB b;unfold cH.D at r f;generalize nD l[n].ks=C at*;generalize l[n].tb=x at*;generalize lU (l.take n)=u at*;go_wp21;go_call f as t A⟨rfl,j⟩;go_wp2;go_roundw;(.exact⟨n+1,b,dM,by rw[ag i];go_num,g.trans<|j.mono g.size⟩);simp[intOf];omega);have c:n=y l:=U;subst c;rw[cQ];go_wp2;go_ret;exact⟨z,g⟩
section
open Shelf
attribute [local go_sem] Oper.semAt_some
def qn(v:ae):R->iG->iF
 |_,[]=>[]
 |n,p::a=>Bz v n (y p)::qn v (n+y p) a
def Bg(v:ae):∀(n:R)(a:iG),y (qn v n a)=y a
 |_,[]=>rfl
 |n,p::a=>by rw[qn,bK,bK,Bg]
def EJ(v:ae)(p:dB):∀(n:R)(a:iG),qn v n (a++[p])=qn v n a++[Bz v (n+y a.flatten)<|y p]
 |_,[]=>by simp[qn]
 |n,q::a=>by
  rw[dt,qn,EJ,qn,dt,di,ai,bJ]
structure Fu(W:Z)(base N1:R)(v pv:ae)(ps:iG)(t:R):Prop where
 p:fF W N1 pv 396
 f:fF W (N1+1) (ay<|y ps.flatten) 3
 to:fF W (N1+2) (ay t) 3
 o:fE W base 103 1 pv (y ps) (qn v 0 ps)
 l:∀k,cN pv=M k->k<N1\/N1+4<=k
 D:N1+4<=G (H W)
 bs:base<=N1
def MM(a:R)(b:ae)(k:R):Prop:=(a<=k/\k<a+3)\/cN b=M k
def Fu.aA{m:ae}{T:fC}(h:Fu a c k d m O n)(g:I T a e)(j:∀o,MM k m o->¬T o):Fu e c k d m O n:=⟨h.p.aA g<|j _<|J ⟨U,U⟩,h.f.aA g<|j _<|J ⟨U,U⟩,h.to.aA g<|j _<|J ⟨U,U⟩,g.aZ h.o<|λo p=>j o<|bu p,h.l,aR h.D g.D,h.bs⟩
def Fu.at{e:ae}(h:Fu a c k d e O n)(j:R):Fu (cP a (X (k+2) 0)<|ay j) c k d e O j:=⟨h.p.dN _ U,h.f.dN _ U,h.to.gu _,(fK a _ 0 _).aZ h.o<|λm g o=>bP<|h.l m g,h.l,by rw[gK];exact h.D,h.bs⟩
def Fu.jl{f:ae}{p:dB}(h:Fu a b c d w O k)(t:fo a e w f)(C:k=y O.flatten+y p)(A:fE e b 103 1 f (y O+1) (qn d 0 O++[Bz d (y O.flatten)<|y p])):(bA e (X c 0)=M w/\iI e (X c 0)=bD)/\(bA (cP e (X c 0) f) (X (c+1) 0)=M (ay<|y O.flatten)/\iI (cP e (X c 0) f) (X (c+1) 0)=bD)/\bA (cP e (X c 0) f) (X (c+2) 0)=M (ay k)/\Fu (cP (cP e (X c 0) f) (X (c+1) 0)<|ay k) b c d f (O++[p]) k/\I (MM c w) a (cP (cP e (X c 0) f) (X (c+1) 0)<|ay k)/\∀l,MM c f l->MM c w l\/G (H a)<=l:=by
 have g:=I.fV t;have D:=h.D;have v:∀x,c<=x->x<c+3->¬(cN w=M x):=λx f g n=>bP<|h.l x n;have o:=h.p.aA g aI;have r:=(h.f.aA g aI).dN (b':=c) (i:=0) f U;have u:=(h.to.aA g aI).dN (b':=c) (i:=0) f U;have j:∀l,cN f=M l->l<c\/c+4<=l:=by intro l s;obtain n|⟨x,n,B⟩:=t.f;exact h.l l<|n▸s;grind
 refine⟨⟨o.u,o.bS⟩,⟨r.u,r.bS⟩,u.u,⟨(o.gu f).dN _ U,?_,u.dN _ U,?_,j,?_,h.bs⟩,?_,?_⟩;have:=r.gu<|ay k;rw[C]at this|-;rw[lW,ai];grind
 rw[ai,EJ,ez];refine(fK _ _ 0 _).aZ ((fK _ _ 0 _).aZ A ?_) ?_;(grind);grind
 rw[gK,gK];have:=g.D;omega;exact((g.aT (T:=MM c w)<|λl s=>J<|bu s).aL _ 0 _<|J<|J ⟨U,U⟩).aL _ 0 _<|J<|J ⟨U,U⟩;rintro l(n|n);exact J<|J n;obtain q|⟨x,q,B⟩:=t.f;exact J<|bu<|q▸n;grind
structure Fe(w:Z)(N1:R)(v:ae)(n L:R)(pre:cy (R×dB))(B:fC)(W:Z):Prop where
 ex:∃ps cur pv,Fu W (G (H w)+2) N1 v pv ps (y<|jj pre)/\jj pre=ps.flatten++cur/\(∀rest,lS n L 0 0 [] (pre.map (·.2)++rest)=ps++lS n L (y ps) (y<|jj pre) cur rest)/\∀k,B k↔MM N1 pv k
 l:fF W (G<|H w) v 103
 n:fF W (G (H w)+1) (ay n) 3
 aA:I aC w W
def Fe.lt{w m:Z}{L:R}{e:cy (R×dB)}(h:Fe w c d n L e W m):∀k,W k->G (H w)+2<=k/\k<G (H m):=by
 let⟨p,g,q,a,_,_,i⟩:=h.ex;intro k j;have:=a.bs;have:=a.D;obtain o|o:=(i k).1 j;grind
 have:=aS a.o k o;grind
def Fe.gR{f:cy (R×dB)}{B T:fC}(h:Fe a b d c k f B e)(g:I T e P)(r:∀o,T o->¬B o/\b+3<=o):Fe a b d c k f B P:=by
 let⟨p,i,q,j,l,m,n⟩:=h.ex;have:=j.bs;exact⟨⟨p,i,q,j.aA g aI,l,m,n⟩,h.l.aA g aI,h.n.aA g aI,h.aA.aj g aI⟩
def Rb{gg:dB}{d:iG}(h:∀a,lS b c 0 0 [] (O++a)=d++lS b c (y d) k i a):((y d+1)*c/b<=k+y gg->∀a,lS b c 0 0 [] (O++[gg]++a)=(d++[i++gg])++lS b c (y<|d++[i++gg]) (k+y gg) [] a)/\(¬(y d+1)*c/b<=k+y gg->∀a,lS b c 0 0 [] (O++[gg]++a)=d++lS b c (y d) (k+y gg) (i++gg) a):=by
 constructor;intro e a;rw[cw,h,dt,ep,rf,fW e];simp;intro e a;rw[cw,h,dt,ep,rf,fN e]
def Zn:(prog.info? 103).map (λi=>(i.zero,i.size,i.bytes))=M (M aF,1,24):=aH
def US(h:lG a d i)(hs:gG i)(hl:y i<=3000000000)(v:∀k,cN d=M k->k<G (H a)):cR bN 256 #[d] a λdn w'=>∃v',dn=aN v'/\fE w' (G<|H a) 103 1 v' (y<|jq i) (qn d 0<|jq i)/\I aC a w':=by
 let⟨i0,bk,bE,bL,bT⟩:=cZ Zn;let⟨aV,j,bv⟩:=cG h;have cM:=CQ d aV (y i) j bv;let⟨N,hN⟩:∃N,wN (y i)=N:=⟨_,rfl⟩;have eb:N<=31250001:=by unfold wN at hN;omega
 have cp:0<y i->0<N:=by unfold wN at hN;omega
 have e1:Int.tdiv ((y i:Y)+96-1) 96=(N:Y):=by have:((y i:Y)+96-1)=((y i+95:R):Y):=U;rw[this,<-hN];unfold wN;grind
 unfold jq;rw[hN];let⟨HN,ch,HH,HV⟩:=js hN cp h v;subst bv;refine(ew (n:=3)).1 ?_;refine callsIn_of_wp_marks func256 z trivial ?_ z;simp only[ntmps256,gp,bK,eE,ke,Nat.reduceSub,fh,fc,gq,fH,ep,dt]
 gi_wp2_with(first
  |(gi_at_make;go_loud(refine wpListIn_make_own _ z _ _ 396 z (G (H a)+2) 103 i0 aF 1 underlying396 bk bE bL _ _ _ N z z U (by rw[bT];omega) (by unfold maxLen;omega) ar ?_;intro e dr B;have an:fF e (G<|H a) (.slice aV (y i) j) 103:=(B.block _ (by simp<;>omega) ar).trans<|fF.aE (aQ _ z) _;have ao:fF e (G (H a)+1) (.int .i64 N) 3:=(B.block _ (by simp<;>omega) ar).trans<|aQ _ ar;have y0:=an.u;have y1:=ao.u;have y2:=az an;have y3:=az ao;have y4:G (H a)<G (H e)+1:=U;have y5:G (H a)<G (H e)+1+1:=U;have cc:=ak an;have cd:=ak ao;have al:Hid (fE e (G (H a)+2) 103 1 (bX (G (H a)+1+1) 0 0 N) 0 []):=ak sO;have ce:=ak B))
  |(refine⟨trivial,?_⟩;gi_at_call 142;refine(ew.2 (cM _)).mono ?_;rintro dn w1⟨rfl,rfl⟩))
 let⟨T,r⟩:∃T,(dw (dw (dw (dw e<|aK #[bX (G (H a)+1+1) 0 0 N] 396)<|aK #[ay 0] 3)<|aK #[ay 0] 3)<|aK #[am aV (y i) j] 103)=T:=⟨_,rfl⟩;have eq:G (H T)=G (H e)+4:=by rw[<-r];simp
 have dd:I aC a e:=(((I.bI aC a).aE<|aK #[am aV (y i) j] 103).aE<|aK #[ay N] 3).t<|I.eF (S:=aC) ce ar;have t:I aC e T:=r▸(((cI aC e).aE _).aE _).aE _;have br:I aC a T:=dd.t t;have cx:fF T (G (H e)+3) (am aV (y i) j) 103:=r▸aQ _ ar;have bc:lG T (am aV (y i) j) i:=HH.aA br<|λk b=>⟨id,HV k b⟩;have hA0:Fe a (G<|H e) (am aV (y i) j) N (y i) [] (MM (G<|H e)<|bX (G (H a)+1+1) 0 0 N) T:=by refine⟨⟨[],[],_,⟨?_,?_,?_,?_,?_,U,U⟩,z,λK=>rfl,λk=>tq⟩,cc.aA t id,cd.aA t id,br⟩;rw[<-r];grind[fF.aE,aQ];rw[<-r];exact fF.aE (fF.aE (aQ _ ar) _) _;rw[<-r];exact fF.aE (aQ _ ar) _;exact t.aZ al<|λ_ _ j=>j;intro k b;have:=(al.lt k b).2;exact J this
 rw[r];refine tL (m:=3) (arg:=IZ<|am aV (y i) j) (V:=CY) (n0:=G<|H a) (gf:=209) (lb:=#[aJ<|G (H e)+3]) (l:=pM 0<|ji i) (S:=λk=>k=G (H e)+3) ?geval (enters_of func209 aH z) (λ_=>rfl) (yD (G<|H a) 2 cx bc HV U U) trivial U (λk b=>U) (λf ab bb=>Fe a (G<|H e) (am aV (y i) j) N (y i) f ab bb) (λ_ _ _ _=>False) _ hA0 (λk b j=>by obtain⟨_,j⟩|j:=j;omega;have:=(al.lt k j).2;omega) (λf ab bb x k b=>⟨bP<|(x.lt k b).1,(x.lt k b).2⟩) ?st (λ_ _ _ _ _ _ h=>h.elim) ?body ?done ?stop;rfl;intro f ab bb l n x ht c;refine x.gR ht<|λk b=>⟨(c k b).1,?_⟩;obtain j|j|j:=(c k b).2;omega;exact j.elim;omega;(case stop=>grind)
 .rintro lr f⟨ac,l⟩ab bb el ck bn C x _;let⟨hn,ev,b⟩:=LO hs.zy C;have ei:0<y l:=ja.2 b.ne;have ek:ac+y l+y ev=y i:=by rw[b.dq,hn];simp;omega
  let⟨ca,c,ea,hx,ej⟩:=bc.Gg U;cases hx;have cB:∀q∈f.map (·.2),q≠[]:=by
   let⟨_,ad,dn⟩:=AQ _ _ _ _ _ C;exactλq hq=>FK i q (by rw[<-dn];simp[hq])
  unfold IZ Bz;simp only;have P:=hn.symm;clear C b hn;gi_wp2;refine⟨I.bI _ _,λL D=>?_⟩;have hA2:=x.gR D<|λk b=>aI;let⟨g,w,pv,v,hcut,u,hB⟩:=hA2.ex;rw[P]at v u;have em:y g<=ac:=by
   have h1:=u [];rw[eu]at h1;have h2:g=lS N (y i) 0 0 [] (f.map (·.2)):=by rw[h1];simp[lS]
   have h3:=EM (ps:=g)<|h2▸Nv _ _ _ _ cB;have h4:=cD y hcut;rw[P,ai]at h4;omega
  have bh:y g.flatten+y w=ac:=by rw[<-P,hcut,ai]
  let⟨px,pc,av⟩:=aM v.o;have z0:=v.to.u;have z1:=v.to.bS;have aU:=v.at (ac+y l);have E:I ab L (cP L (X (G (H e)+2) 0)<|ay ((ac+y l:R):Y)):=(I.bI ab L).aL _ 0 _<|J<|(hB _).2<|J ⟨U,U⟩;have bl:=hA2.l.aA E<|λj=>bP<|(x.lt _ j).1;have bo:=hA2.n.aA E<|λj=>bP<|(x.lt _ j).1;let⟨q,hq⟩:∃q,(y g+1)*y i/N=q:=⟨_,rfl⟩;let⟨cb,hp⟩:∃cb,(y g+1)*y i=cb:=⟨_,rfl⟩;have en:cb<=3000000001*3000000000:=hp▸Nat.mul_le_mul U hl;have a1:((y g:Y)+1)*(y i:Y)=(cb:Y):=by rw[<-hp];grind
  have a2:Int.tdiv (cb:Y) (N:Y)=(q:Y):=by rw[<-hq,hp];grind
  have ec:=ch U;have ax:=Rb (gg:=l) u;rw[hq]at ax;have b1:((N:Y)==0)=bD:=by simp;omega
  have b2:IntKind.i64.wrap (cb:Y)=(cb:Y):=by rw[bR];omega
  have eo:q<=cb:=hq▸hp▸Nat.div_le_self _ _;have b3:IntKind.i64.wrap (q:Y)=(q:Y):=by rw[bR];omega
  have dv:¬((N:Y)=0):=U;have dx:¬(N=0):=U;subst av;gi_wp2_with fail
  rw[show G (H e)+1+1=G (H e)+2 from rfl,show G (H e)+2+1=G (H e)+3 from rfl,show((ac:Y)+(y l:Y))=((ac+y l:R):Y)by push_cast;rfl];generalize ed:cP L (X (G (H e)+2) 0) (ay ((ac+y l:R):Y))=W3 at*;have s0:=aU.to.u;have s1:=aU.p.u;have s2:=bl.u;have s3:=bo.u;let⟨ad,F⟩:∃ad,ac+y l=ad:=⟨_,rfl⟩;rw[F]at s0|-;rename_i QQ KK co;refine Dv aH aH aH (λet a h=>h) ?_;repeat(quiet_step (fail))
  refine wpQuiet_nil ?_;rintro _⟨nq,rfl⟩;show KK _ _;apply co;have b4:IntKind.i64.wrap ((y g:Y)+1)=(y g:Y)+1:=by rw[bR];omega
  rw[b4,a1,b2,a2,b3];let⟨o,bf⟩:∃o,W3.drewN nq=o:=⟨_,rfl⟩;have n:I aC W3 o:=bf▸gP _ W3 nq;rw[bf];have bt:=aU.aA n<|λ_ _=>id;have er:I (λk=>ab k\/k=lr) bb o:=((D.aT<|λk b=>J<|bu b).aj E<|λk b=>J<|J b).t n;have ap:=bl.aA n id;have cT:=bo.aA n id;have bs:I aC a o:=(hA2.aA.aj E<|λk b=>bu<|bP<|(hA2.lt k b).1).t n;have aa:I ab L o:=E.t n;have bm:lr<G (H L):=au bn.1 D.D;have eg:G (H bb)<=G (H L):=D.D;have Q:=ak (show∀(O:Z)(W:ae)(p:iG)(cu:dB),Fu O (G (H a)+2) (G<|H e) (bX ca c (y i) j) W p (ac+y l)->jj f++l=p.flatten++cu->(∀K,lS N (y i) 0 0 [] (f.map (·.2)++[l]++K)=p++lS N (y i) (y p) (ac+y l) cu K)->I ab o O->(∀k,MM (G<|H e) W k->ab k\/G (H o)<=k)->DM CY (λf ab bb=>Fe a (G<|H e) (bX ca c (y i) j) N (y i) f ab bb) (λ_ _ _ _=>False) (f++[(ac,l)]) ab bb L lr .normal ⟨#[],[]⟩ O fromλO W p cu h1 h2 h3 h4 h5=>by
   have e1:jj (f++[(ac,l)])=jj f++l:=vH _ _ _;have e2:y (jj<|f++[(ac,l)])=ac+y l:=by rw[e1,ai,P]
   have A:∀k,ab k->G (H a)+2<=k:=λk b=>(hA2.lt k b).1;have s:I ab L O:=aa.aj h4 (λk b=>J b);refine⟨trivial,MM (G (H e)) W,⟨⟨p,cu,W,e2▸h1,e1▸h2,e2▸bz▸h3,λk=>tq⟩,ap.aA h4 (λj=>bP (A _ j)),cT.aA h4 (λj=>bP (A _ j)),bs.aj h4 (λk b=>bu (bP (A k b)))⟩,(D.aT (λk b=>J (bu b))).aj s (λk b=>J (J b)),s.A lr bm ck,λk b=>(h5 k b).imp_right (λj=>bP aa.D)⟩)
  have bi:y g.flatten<=ad/\y g.flatten<ad:=bP bh;by_cases bq:q<=ad
  .have dc:(q:Y)<=(ad:Y):=U;have O:∀p:Z,I aC o p->Fu p (G (H a)+2) (G<|H e) (bX ca c (y i) j) (am px (y g) pc) g ad:=λp ht=>F▸bt.aA ht (λ_ _=>id);let⟨W,hf⟩:∃W,y g.flatten=W:=⟨_,rfl⟩;have ba:=ak (show∀p:Z,I aC o p->bA p (X (G<|H e) 0)=M (am px (y g) pc)/\bA p (X (G<|H a) 0)=M (bX ca c (y i) j)/\bA p (X (G (H e)+1) 0)=M (ay (W:Y))/\bA p (X (G (H e)+2) 0)=M (ay (ad:Y))fromλp ht=>⟨(O p ht).p.u,(ap.aA ht id).u,hf▸(O p ht).f.u,(O p ht).to.u⟩);rw[hf]at bi;have cr:=ba o.drew<|cf _ o;have b4:(W:Y)<=(ad:Y):=U;have b5:(ad:Y)<=(j:Y):=U;have b6:¬(j-W=0):=U;have b7:(0:Y)<=(W:Y):=U;have dT:¬(j=W):=U;gi_wp2_with fail
   rename_i ds cj bd;refine wl (λp=>bA p (X (G<|H e) 0)=M (am px (y g) pc)/\bA p (X (G<|H a) 0)=M (bX ca c (y i) j)/\bA p (X (G (H e)+1) 0)=M (ay (W:Y))/\bA p (X (G (H e)+2) 0)=M (ay (ad:Y))) 7 aH aH (λet a h=>h) ?_;refine dH 0 ?_;iterate 5 (refine fX cr ?_;simp only[ii,eh,ke])
   apply eS;refine aW 5 ?_;intro K5 cl;go_simp;have A:I aC o (dw o<|aK #[bX ca (c+W*4) (ad-W)<|j-W] 103).drew:=(cI _ o).df z;have s:=O _ A;have es:=s.D;refine cl _ _ (λ_=>ba _ A) ?_;refine aW 6 ?_;intro K6 cm;simp only[dl,cF,cO];refine lO (.tmp 32) (.tmp 37) 396 z (G (H a)+2) 103 i0 aF 1 24 underlying396 bk bE bL bT z cg (am px (y g) pc) (y g) (qn (bX ca c (y i) j) 0 g) z s.o (X (G<|H o) 0) 1 1 [bX ca (c+W*4) (ad-W)<|j-W] z z (rG _ _ _) (by simp[Value.oneCell']) U U aI ?_;intro v6 w6 db bx;obtain⟨x6,c6,dk⟩:=aM db;subst dk;let⟨⟨y0,y1⟩,⟨y4,y5⟩,y6,cv,cu,cs⟩:=s.jl (p:=w++l) bx (by rw[ai];have:=bh;omega) (by
    have dn:Bz (bX ca c (y i) j) (y g.flatten) (y<|w++l)=bX ca (c+W*4) (ad-W) (j-W):=by
     unfold Bz;grind[ag,length_append]
    rwa[dn])
   have aD:=I.fV bx;have bp:∀aV,G (H e)<=aV->aV<G (H e)+3->¬(cN (am px (y g) pc)=M aV):=λaV h1 h2 q=>bP<|s.l aV q;refine cm _ _ (λ_=>⟨y0,((ap.aA A id).aA aD<|λq=>bP<|(aS s.o _ q).1).u,hf▸(s.f.aA aD<|bp _ U U).u,(s.to.aA aD<|bp _ U U).u⟩) ?_;have bg:=Q _ _ _ [] (F▸cv) (by rw[hcut];simp) (ax.1<|F▸bq) (((I.bI aC o).t A|>.aT cY).aj cu<|λk b=>J<|(hB k).2 b)<|λk b=>(cs k b).imp (λj=>(hB k).2 j)<|λj=>bP A.D;rw[hf]at y4;refine aW 7 ?_;intro K7 cn;go_simp;refine cn _ _ (λq=>(q z).elim) ?_;refine dG aH ?_ _;show cj _ _;refine bd _ _ ?_;gi_wp2;exact bg
  .have dc:¬((q:Y)<=(ad:Y)):=U;have p:=ak<|Q o _ g (w++l) bt (by rw[hcut,cw]) (ax.2<|F▸bq) (I.bI _ _)<|λk b=>J<|(hB k).2 b;gi_wp2;exact p
 intro D ab bb E x l _ p;let⟨g,w,pv,v,hcut,u,hB⟩:=x.ex;rw[CT]at hcut v u;(have o:lS N (y i) 0 0 [] (ji i)=g:=by have:=u [];rw[DZ,eu]at this;rw[this];simp[lS]);let⟨px,pc,av⟩:=aM v.o;have:=v.p.u;have n:cN pv≠M D:=λq=>l<|(hB D).2<|bu q;let⟨A,s,C⟩:=eU v.o p x.aA;have:=az p;subst av;gi_wp2;have c:=iC bb D<|.deferred dE;refine⟨ar,J ⟨_,_,z,run_takeDeferred s,?_⟩⟩;refine⟨_,gH z _ _ _,?_⟩;exact⟨_,z,by rw[o];exact fj (c.aZ A<|λk b q=>n<|q▸b) U,C.aj c<|λk b=>bu (by subst b;omega)⟩
end
def jY.ou{ts:dI}(h:jY a (bX b c (y ts) k) ts)(i:R)(l:i<=y ts):jY a (bX b c i k) (ts.take i):=by
 have g:y (ts.take i)=i:=by simp;omega
 have:=h.fS;refine⟨⟨ar,bu ⟨b,c,k,by rw[g],?_,λo u d=>?_⟩⟩,λm f=>h.lt m f,λt j=>h.bZ t<|iy j,bP h.f⟩;grind
 rw[List.map_take,qL]at d;split at d;rename_i e;rw[fP,bF U]at d;cases d;exact h.u U;cases d
def jY.pO(h:jY a (bX b c (y v) k) v)(i:R)(m:i<=y v):jY a (bX b (c+i) (y v-i)<|k-i) (v.drop i):=by
 have g:y (v.drop i)=y v-i:=ar;have:=h.fS;refine⟨⟨ar,bu ⟨b,c+i,k-i,by rw[g],?_,λn u e=>?_⟩⟩,λo f=>h.lt o (by simpa[cN]using f),λt j=>h.bZ t<|mV j,bP h.f⟩;grind
 rw[List.map_drop,List.getElem?_drop]at e;(have d:i+n<y v:=by grind);rw[fP,bF d]at e;cases e;rw[bJ];exact h.u d
def jY.D(h:jY a (bX b c n k) l)(d:R):jY a (bX b d 0 0) []:=⟨⟨z,ar⟩,(λf e=>h.lt f<|by simpa[cN]using e),aI,bQ _⟩
structure Iu(ts:dI)(lo hi:af)(i j:R):Prop where
 f:su ts lo i
 le:i<=j
 v:j<=y ts
 zbf:∀k(hk:k<y ts),i<=k->k<j->kH hi (iq ts[k].ks)=bD
 l:∀(hj:j<y ts),kH hi (iq ts[j].ks)=cz
def Pe(E p:af)(h:jY a d l)(hs:Dk l):cR bN 195 #[d,aw E,aw p] a λW F=>∃i D Q S T,W=aN (de #[Q,S,T])/\Iu l E p i D/\jY F Q (l.take i)/\jY F S ((l.drop i).take<|D-i)/\jY F T (l.drop D)/\(∀k,cN Q=M k\/cN S=M k\/cN T=M k->cN d=M k)/\gD (G<|H a) a F:=by
 have:=h.f;have C:=BN E h hs;obtain⟨rfl,rfl⟩|⟨ab,f,c,rfl,aa⟩:=h.fS;(.clear h hs;(go_in);go_wp21;go_call C as W V⟨k,rfl,e,s⟩;obtain rfl:k=0:=Nat.le_zero.1 e.le;have L:=ak e;go_wp2;(go_loopw [10] (λD wr=>D=ay 0/\wr=V) (λ_ _=>0));(grind);obtain⟨rfl,g⟩:=hrel;subst wr;go_wp21;(go_quiet(fail));go_wp2;(go_ret3);have b:jY (V.drewN nq) aF []:=⟨⟨z,J ⟨z,z⟩⟩,(by intro k e;cases e),aI,bQ _⟩;exact⟨0,0,_,_,_,z,⟨L,aq _,aq _,ar,ar⟩,b,b,b,sO,below_drewN s _⟩)
 .have HL:=ak h;have:=J9;go_in
  go_wp21;go_call C as W V⟨i,rfl,e,s⟩;have u:=e.le;have L:=ak e;go_wp2;go_loopw [10] (λD wr=>∃n:R,i<=n/\n<=y l/\D=ay n/\(∀k(e:k<y l),i<=k->k<n->kH p (iq l[k].ks)=bD)/\gD (G<|H a) a wr) (λD _=>y l-(intOf D).toNat)
  .exact⟨i,aq _,u,z,aI,s⟩
  .obtain⟨n,P,B,rfl,hw,w⟩:=hrel;have g:=HL.dD w;have:(i:Y)<=(n:Y):=U;have:(n:Y)<=(y l:Y):=U;have:(i:Y)<=(y l:Y):=U;have:(n:Y)<=(c:Y):=U;have:(i:Y)<=(c:Y):=U;have:(y l:Y)<=(c:Y):=U;have o:=ak (show(∀(a:n<y l),kH p (iq l[n].ks)=cz)->Iu l E p i n/\jY wr (bX ab f i c) (l.take i)/\jY wr (bX ab (f+i) (n-i)<|c-i) ((l.drop i).take<|n-i)/\jY wr (bX ab (f+n) (y l-n)<|c-n) (l.drop n)from by
    intro j;refine⟨⟨L,P,B,hw,j⟩,g.ou i u,?_,g.pO n B⟩;have t:=g.pO i u;have K:=jY.ou (ts:=l.drop i) (iZ▸t) (n-i) (by rw[iZ];omega);exact K)
   by_cases m:n<y l
   .have hp:=g.u m;have t:=(g.bZ _<|aB m).eJ;have e7:(n:Y)<(y l:Y):=U;have:(0:Y)<=(n:Y):=U;have j:=FH (iq l[n].ks) p;unfold cH.D at hp t;cases hkl:kH p (iq l[n].ks)with
    |false=>
     rw[hkl]at j;simp only[zo]at j;have O:=ak (show∀k(e:k<y l),k=n->kH p (iq l[k].ks)=bD fromλk e W=>aI);generalize iq l[n].ks=fk at*;generalize l[n].tb=j8 at*;go_wp21;go_call t as W N⟨rfl,K⟩;subst N;go_wp2;go_roundw
     .exact⟨n+1,U,m,dM,λk e b ab=>by obtain ac|ac:=iU k n;exact hw k e b ac;exact O k e U,w⟩
     .simp[intOf];omega
    |true=>
     rw[hkl]at j;simp only[tr]at j;have x:=ak<|o<|λ_=>hkl;generalize iq l[n].ks=fk at*;generalize l[n].tb=j8 at*;go_wp21;go_call t as W N⟨rfl,K⟩;subst N;go_wp21;go_quiet(fail)
     go_wp2;go_ret3
     let⟨q,r,v,A⟩:=ag x;have b:gD (G<|H wr) wr (wr.drewN nq):=below_drewN (Below.refl _ _) _;exact⟨i,n,_,_,_,z,q,r.dD b,v.dD b,A.dD b,(by intro k e;simpa[cN]using e),below_drewN w _⟩
   .have t:n=y l:=U;have x:=ak<|o<|λa=>absurd a m;have:¬(n:Y)<(y l:Y):=U;have N:=g.D f;have K:=ak (show l.drop n=[]by rw[t,li]);obtain hc|hc:=iU n c
    .have:¬(c-n=0):=U;have j:¬(c-i=0):=U;clear t;go_wp21;go_quiet(fail)
     go_wp2;go_ret3
     let⟨q,r,v,A⟩:=ag x;have b:gD (G<|H wr) wr (wr.drewN nq):=below_drewN (Below.refl _ _) _;exact⟨i,n,_,_,_,z,q,r.dD b,v.dD b,A.dD b,(by intro k e;simpa[cN]using e),below_drewN w _⟩
    .have j:c=n:=U;subst j;clear t;obtain O|O:=iU i c
     .have:¬(c-i=0):=U;go_wp21;go_quiet(fail)
      go_wp2;go_ret3
      let⟨q,r,v,A⟩:=ag x;have b:gD (G<|H wr) wr (wr.drewN nq):=below_drewN (Below.refl _ _) _;refine⟨i,c,_,_,_,z,q,r.dD b,v.dD b,?_,(by intro k e;simpa[cN]using e),below_drewN w _⟩;rw[ag K];exact N.dD b
     .have j:i=c:=U;subst j;go_wp21;go_quiet(fail)
      go_wp2;go_ret3
      let⟨q,r,v,A⟩:=ag x;have b:gD (G<|H wr) wr (wr.drewN nq):=below_drewN (Below.refl _ _) _;refine⟨i,i,_,_,_,z,q,r.dD b,?_,?_,(by intro k e;simpa[cN]using e),below_drewN w _⟩
      .rw[ag K,xY];exact N.dD b
      .rw[ag K];exact N.dD b
def jY.df{w w':Z}(h:jY w d l)(j:w'.heap=w.heap):jY w' d l:=by
 refine⟨?_,λq n=>j▸h.lt q n,λt o=>(h.bZ t o).df j,h.f⟩;obtain⟨i,g|⟨p,b,e,g,k,m⟩⟩:=h.bV;exact⟨i,J g⟩;exact⟨i,bu ⟨p,b,e,g,k,λo u n=>(dZ (w:=w)<|by rw[j]).trans<|m o u n⟩⟩
def wW(a:dI):Prop:=∀i(h:i+1<y a),kH (iR a[i].ks) (iq a[i+1].ks)=cz
def ma.fq(h:ma l):wW l:=by
 intro i a;let⟨x,d,b⟩:=(h.p _<|aB<|show i<y l by omega).A;let⟨f,e,c⟩:=(h.p _<|aB a).p;rw[<-b,<-c];exact h.D U a U d e
def ApP(a:dI)(w c:Z)(e:Ending):Prop:=∃b,e=aN (aO b)/\(b=cz->wW a)/\(b=bD->a≠[])/\gD (G<|H w) w c
def WY(h:jY a d l):cR bN 118 #[d] a λA k=>ApP l a k A:=by
 have L:=h.f;obtain⟨rfl,rfl⟩|⟨S,v,E,rfl,_⟩:=h.fS;(.clear h;(go_in);go_wp2;(go_loopw [6] (λi wr=>i=ay 0/\wr=a) (λ_ _=>0));(grind);obtain⟨rfl,rfl⟩:=hrel;go_wp2;go_ret;exact⟨cz,z,λ_=>by intro i h;simp at h,ar,Below.refl _ _⟩)
 .have C:=ak h;have F:=LZ;clear h;go_in
  go_wp2;go_loopw [6] (λi wr=>∃o:R,o<=y l/\i=ay o/\gD (G<|H a) a wr/\Hid (∀i(h:i+1<y l),i+1<o->kH (iR l[i].ks) (iq l[i+1].ks)=cz)) (λi _=>y l-(intOf i).toNat)
  .exact⟨0,bQ _,z,Below.refl _ _,ak U⟩
  .obtain⟨o,K,rfl,g,x⟩:=hrel;have b:=C.dD g;by_cases n:o<y l
   .obtain s|s:=fO o
    .subst s;clear b;go_wp21;go_quiet(fail)
     go_wp2;go_roundw
     .exact⟨1,U,dM,below_drewN g _,ak U⟩
     .simp[intOf];omega
    .obtain⟨m,rfl⟩:∃m,o=m+1:=⟨o-1,U⟩;have u:=b.u (show m<y l by omega);have j:=b.u n;have e:∀W,W.heap=wr.heap->cR bN 183 #[l[m].D] W λA k=>A=aN (aw<|iR l[m].ks)/\∃q,k=W.drewN q:=λW a=>((b.bZ _<|aB<|show m<y l by omega).df a).eP;have c:∀W,W.heap=wr.heap->cR bN 184 #[l[m+1].D] W λA k=>A=aN (aw<|iq l[m+1].ks)/\k=W:=λW a=>((b.bZ _<|aB n).df a).eJ;have f:=ak (show kH (iR l[m].ks) (iq l[m+1].ks)=cz->∀i(h:i+1<y l),i+1<m+1+1->kH (iR l[i].ks) (iq l[i+1].ks)=cz fromλq i h t=>by
      by_cases D:i+1<m+1
      .exact ag x i h D
      .obtain rfl:i=m:=U;exact q)
     have p:=ak (show kH (iR l[m].ks) (iq l[m+1].ks)=bD->¬wW l fromλq D=>by have:=D m n;rw[q]at this;cases this);clear b;unfold cH.D at u j e c;generalize iR l[m].ks=N at*;generalize iq l[m+1].ks=O at*;generalize l[m].tb=P at*;generalize l[m+1].tb=Q at*;let⟨w,t⟩:∃w,m+1=w:=⟨_,rfl⟩;rw[t]at j n s K|-;have:(w:Y)-1=(m:Y):=U;have:(m:Y)<(y l:Y):=U;have:(w:Y)<(y l:Y):=U;have:IntKind.i64.wrap (m:Y)=(m:Y):=by rw[bR];omega
     have:(0:Y)<(w:Y):=U;have:(0:Y)<=(m:Y):=U;have B:m<y l:=U;cases hlt:kH N O
     .unfold kH at hlt;go_wp21;go_quiet(first
       |(go_at_call 183;refine Calls.quiet_of (e _ z))
       |(go_at_call 184;refine Calls.quiet_of_same (c _ z)))
      go_wp2;go_ret;exact⟨bD,z,ar,λ_ q=>(by rw[q]at B;simp at B),below_drewN g _⟩
     have r:=ak<|ag f hlt;unfold kH at hlt;clear f p;go_wp21;go_quiet(first
      |(go_at_call 183;refine Calls.quiet_of (e _ z))
      |(go_at_call 184;refine Calls.quiet_of_same (c _ z)))
     go_wp2;go_roundw
     .exact⟨w+1,U,dM,below_drewN g _,ak<|λi h q=>ag r i h<|bP t⟩
     .simp[intOf];omega
   .have c:o=y l:=U;subst c;clear b;go_wp2;go_ret;exact⟨cz,z,λ_ i h=>ag x i h h,ar,g⟩
def MJ(w:Z)(d:R)(t:cH):Prop:=∃c b a,mR w t.tb (aJ d) t.cK (jN t.ks) (y<|iE t.ks) (pu<|iE t.ks) c b a aF t.ks
def MJ.XE{t:cH}(h:MJ a b t):Qv a t:=by
 let⟨e,d,c,f⟩:=h;exact⟨_,_,_,_,_,e,d,c,_,f⟩
def MJ.dD{t:cH}(h:MJ a b t)(g:gD (G<|H a) a e):MJ e b t:=by
 let⟨i,d,c,f⟩:=h;exact⟨i,d,c,f.dU (g.block _ f.lt.1)<|g.block _ f.lt.2⟩
def cH.t(t:cH):iF:=[bw t.cK,eI<|jN t.ks,eI<|y<|iE t.ks,eI<|pu<|iE t.ks]
def fY(a:dI):iF:=a.flatMap cH.t
def Sm(a:dI)(t:cH):fY (a++[t])=fY a++t.t:=by simp[fY]
def Pk:(prog.info? 234).map (λi=>(i.zero,i.size,i.bytes))=M (M<|ef #[bw 0,eI 0,eI 0,eI 0],4,24):=aH
def Am(x c m9 u:ae)(t:TypeId)(d:b=G (H a)):∀j q,[x,c,m9,u][j]?=M q->bA (dw a<|aK #[x,c,m9,u] t) (((X b 0):Addr).add j)=M q:=by
 intro j q e;subst d;rw[dS];simp_all
def Sw(w:Z)(db:R)(ac:ae)(a:dI)(h:jY w ac a)(F:∀al∈a,MJ w db al)(hl:y a<=20000000000):cR bN 202 #[ac] w λab N=>∃L,ab=aN L/\fE N (G<|H w) 234 4 L (y a) (fY a)/\gD (G<|H w) w N:=by
 let⟨C,j,l,m,o⟩:=cZ Pk;obtain⟨rfl,rfl⟩|⟨an,D,W,rfl,_⟩:=h.fS
 .clear h F;go_in
  go_wp2_with(first
   |(at_make;go_loud(refine kg _ z _ _ 158 z (G (H w)) 234 C (.agg #[.int .u64 0,.int .u32 0,.int .u32 0,.int .u32 0]) 4 underlying158 j l m _ _ _ 0 z z U (by rw[o];omega) aI (aq _) ?_;intro O d c;have g:=ak d;have f:=ak c)))
  go_loopw [3,11] (λaa K wr=>K=ay 0/\fE wr (G<|H w) 234 4 aa 0 []/\wr=O) (λ_ _ _=>0)
  .exact⟨z,g,z⟩
  .obtain⟨rfl,r,b⟩:=hrel;subst wr;obtain⟨ad,P,rfl⟩:=aM r;go_wp2;go_ret;exact⟨_,z,r,(I.eF (S:=aC) f ar).dD (aq _) cY⟩
 .have Q:=ak h;go_in
  go_wp2_with(first
   |(at_make;go_loud(refine kg _ z _ _ 158 z (G (H w)) 234 C (.agg #[.int .u64 0,.int .u32 0,.int .u32 0,.int .u32 0]) 4 underlying158 j l m _ _ _ (y a) z z U (by rw[o];omega) (by unfold maxLen;omega) (aq _) ?_;intro O d c;have g:=ak d;have f:=ak c)))
  go_loopw [3,11] (λaa K wr=>∃n:R,n<=y a/\K=ay n/\fE wr (G<|H w) 234 4 aa n (fY<|a.take n)/\I aC w wr) (λ_ K _=>y a-(intOf K).toNat)
  .exact⟨0,bQ _,z,g,I.eF (S:=aC) f ar⟩
  .obtain⟨n,hn,rfl,b,k⟩:=hrel;have x:=k.dD (aq _) cY;have:=k.D;let⟨ad,P,r⟩:=aM b;by_cases e:n<y a
   .have hp:=(Q.dD x).u e;let⟨bb,E,q,hm⟩:=(F _<|aB e).dD x;have p:=YL hm;let⟨u,T,V⟩:=eU (show fY (a.take<|n+1)=fY (a.take n)++[bw a[n].cK,eI<|jN a[n].ks,eI<|y<|iE a[n].ks,eI<|pu<|iE a[n].ks]by rw[aG e,Sm];rfl) b k;have:=b.lt;unfold cH.D at hp;unfold GZ at p;generalize a[n].cK=x0 at*;generalize(jN a[n].ks)=x1 at*;generalize y (iE a[n].ks)=x2 at*;generalize pu (iE a[n].ks)=x3 at*;generalize a[n].tb=j8 at*;subst r;go_wp21;go_call p as ab w1⟨rfl,i⟩;have s:=ak<|(I.p (S:=aC) i).aZ T<|λ_ _ P=>P;have:=i.size;go_wp2_with(first
     |(at_builtin;go_loud(refine cq _ z (.tmp 15) (.tmp 18) 158 z (G (H w)) 234 C (.agg #[.int .u64 0,.int .u32 0,.int .u32 0,.int .u32 0]) 4 24 underlying158 j l m o z cg (.slice ad n P) n (fY (a.take n)) z (bC s _) (X (G (H w1)) 0) 1 1 [.int .u64 x0,.int .u32 x1,.int .u32 x2,.int .u32 x3] z z (Am _ _ _ _ _ z) (by simp[Value.oneCell']) U U dW ?_;intro o2 w2 A B;have t:=ak A;have v:=ak B)))
    go_roundw
    .refine⟨n+1,e,dM,ag u▸t,?_⟩;exact((V.t<|I.p (S:=aC) i).aE _).aj (I.fV v) aI
    .simp[intOf];omega
   .have i:n=y a:=U;subst i;rw[cQ]at b;go_wp2;go_ret;exact⟨_,z,b,x⟩
def OH(v:ae)(w:Z):(Go.method 577 106 v "From").run bN w=.ok (336,v) w:=aH
def OG(v:ae)(w:Z):(Go.method 577 235 v "From").run bN w=.ok (340,v) w:=aH
def nA.xL(h:uE s b d l a)(c:b<=G (H a))(hF:∀k,s.F k->k<b):nA s b (.iface 106 d) (gz l) a:=⟨_,d,_,d,z,OH d,enters_of func336 aH z,λg i e f=>VP g (h.bM e) f (aR c e.1) hF⟩
def nA.FB{t:cH}(h:nY s b t.tb t.ks t.cs a)(c:b<=G (H a))(hF:∀k,s.F k->k<b):nA s b (.iface 235 t.D) t.dq a:=⟨_,t.D,_,t.D,z,OG t.D,enters_of func340 aH z,λf g d e=>EC f (h.bM d) e (aR c d.1) hF⟩
def LV:(prog.info? 221).map (λi=>(i.zero,i.size,i.bytes))=M (M ic,1,16):=aH
structure Xf(w:Z)(base:R)(t:cH)(bb vW x IX:R):Prop where
 ks:t.ks=dK 0 t.cs
 cK:t.cK=0
 f:sw t.dq t.cs
 D:mR w t.tb (ee dE) 0 0 0 0 bb 0 vW (bX x 0 (y<|gF t.cs) IX) t.ks
 A:fA w base (bX x 0 (y<|gF t.cs) IX) (gF t.cs)
 L:fE w base 383 5 (bX bb 0 (y t.ks) vW) (y t.ks) (fM t.ks)
 lY:base<=t.tb
def B8(w:Z)(d:R)(t:cH):Prop:=∃c a x b,Xf w d t c a x b
def Xf.aA{S:fC}{w w':Z}{t:cH}{x a:R}(h:Xf w c t k n x a)(d:I S w w')(j:¬S t.tb)(g:¬S k)(m:¬S x):Xf w' c t k n x a:=⟨h.ks,h.cK,h.f,h.D.dU (d.A _ h.D.lt.1 j)<|d.A _ h.D.lt.2 g,d.aZ h.A (λo e=>by cases e;exact m),d.aZ h.L (λo e=>by cases e;exact g),h.lY⟩
def Xf.dN{t:cH}{d:R}(h:Xf a b t c k n d)(r:I W a e)(m:∀p,W p->∃f T g,a.heap[p]?=M (aK f T g)/\T≠323/\T≠383/\T≠5):Xf e b t c k n d:=by
 refine h.aA r (λo=>?_) (λo=>?_)<|λo=>?_;let⟨f,T,g,j,l,_⟩:=m _ o;exact lk j h.D.g l z;let⟨f,T,g,j,_,l,_⟩:=m _ o;let⟨c2,q⟩:=gh h.L (k:=c) rfl;grind
 let⟨f,T,g,j,_,_,l⟩:=m _ o;let⟨c2,q⟩:=gh h.A (k:=n) rfl;grind
structure NT where
 t:cH
 bb:R
 vW:R
 x:R
 IX:R
def NT.Ok(w:Z)(a:R)(p:NT):Prop:=Xf w a p.t p.bb p.vW p.x p.IX
def NT.D(p:NT)(k:R):Prop:=k=p.t.tb\/k=p.bb\/k=p.x
def NT.mG(p q:NT):Prop:=∀k,p.D k->¬q.D k
def NT.Ok.lt{w:Z}{p:NT}(h:p.Ok w c):∀k,p.D k->c<=k/\k<G (H w):=by
 rintro k(rfl|rfl|rfl);exact⟨h.lY,h.D.lt.1⟩;exact⟨(h.L.lt _ z).1,h.D.lt.2⟩;exact fA.lt h.A _ z
def NT.Ok.aA{S:fC}{w w':Z}{p:NT}(h:p.Ok w c)(d:I S w w')(a:∀k,p.D k->¬S k):p.Ok w' c:=Xf.aA h d (a _<|J rfl) (a _<|bu<|J rfl)<|a _<|bu<|bu rfl
def NT.Ok.pQ{d base':R}{p:NT}(h:p.Ok a d)(c:base'<=d):p.Ok a base':=⟨h.ks,h.cK,h.f,h.D,h.A.pQ c,fj h.L c,aR c h.lY⟩
def NT.Ok.zea{p:NT}(h:p.Ok a b):B8 a b p.t:=⟨_,_,_,_,h⟩
def sF(w:Z)(c:R)(d:dI):Prop:=∃a:cy NT,a.map NT.t=d/\(∀p∈a,p.Ok w c)/\a.Pairwise NT.mG
def sF.km(w:Z)(a:R):sF w a []:=⟨[],rfl,ar,List.Pairwise.nil⟩
def sF.bZ(h:sF a b l):∀t∈l,B8 a b t:=by
 obtain⟨f,rfl,c,_⟩:=h;intro t e;obtain⟨p,d,rfl⟩:=cC.1 e;exact(c p d).zea
def sF.aA{w w':Z}(h:sF w c v)(j:I aC w w'):sF w' c v:=by
 let⟨k,a,d,e⟩:=h;exact⟨k,a,λp g=>(d p g).aA j<|λ_ _ m=>m,e⟩
def sF.dN(h:sF a b l)(n:I W a e)(k:∀p,W p->∃c T d,a.heap[p]?=M (aK c T d)/\T≠323/\T≠383/\T≠5):sF e b l:=by
 let⟨o,f,g,j⟩:=h;exact⟨o,f,λq m=>Xf.dN (g q m) n k,j⟩
def sF.pQ{c base':R}(h:sF a c l)(g:base'<=c):sF a base' l:=by
 let⟨j,d,e,f⟩:=h;exact⟨j,d,λp i=>(e p i).pQ g,f⟩
def IN{a:cy NT}{q:NT}(h:a.Pairwise NT.mG)(b:∀p∈a,p.mG q):(a++[q]).Pairwise NT.mG:=by
 rw[eH];grind
def JA(v:ae):∀(n:R)(a:iG)(i:R)(b:i<y a),(qn v n a)[i]?=M (Bz v (n+y (a.take i).flatten)<|y a[i])
 |_,[],_,b=>aI
 |n,p::a,0,_=>by simp[qn]
 |n,p::a,i+1,b=>by
  rw[qn,qX,JA v (n+y p) a i<|dV b];grind
def Vs(h:lG a d i)(f:O.flatten=i)(e:b<y O)(c:O[b]≠[]):lG a (Bz d (0+y (O.take b).flatten)<|y O[b]) O[b]:=by
 rw[ez];refine Da (s:=(O.drop<|b+1).flatten) h ?_ c;have:O=O.take b++O[b]::O.drop (b+1):=by rw[<-dm e,du]
 rw[<-f];grind
def yE:(prog.info? 235).map (λi=>(i.zero,i.size,i.bytes))=M (M<|ee dE,1,8):=aH
def Py(l:dB):iY ⟨#[]⟩ l=l:=nF.2 (λx _=>by rw[LN];rfl)
def xJ(c:ae)(a b:dI):cy (ae×dB):=(.iface 106 c,gz b)::a.map (λt=>(.iface 235 t.D,t.dq))
def yA(d:eD)(a:eN)(b c:dI):dB:=uz d a<|gz c::b.map cH.dq
def H6(w:Z)(x:ae)(T:TypeId):fE (dw w<|aK #[x] T) (G<|H w) T 1 (bX (G<|H w) 0 1 1) 1 [x]:=⟨z,bu ⟨G<|H w,1,#[x],z,aq _,aQ _ z,aq _,by unfold maxLen;omega,z,z⟩⟩
structure MU(W wr:Z)(base:R)(o:ae)(ps:iG)(n:R)(tm:dI):Prop where
 aZ:fE wr base 235 1 o n (tm.map cH.D)
 dL:y tm=n
 dq:tm.map cH.dq=ps.take n
 bZ:sF wr base tm
 aA:I aC W wr
def MU.DC{W wr w1 w2:Z}{o o2:ae}{g:iG}{p a q d:R}{u:Obj}(h:MU W wr c o O k v)(F:k<y O)(V:c<=G (H W))(S:∀f,cN o=M f->G (H W)<=f)(i:Qz wr w1 n O[k] g p a q d)(ho:fE w2 c 235 1 o2 (k+1) (v.map cH.D++[aJ n]))(t:fo (dw w1 u) w2 o o2):∃w,MU W w2 c o2 O (k+1) w/\∀f,cN o2=M f->G (H W)<=f:=by
 have K:=h.aA.D;have L:=i.aA.D;have C:I (λf=>cN o=M f) wr w2:=((i.aA.aT (T:=λf=>cN o=M f) cY).aE u).aj (I.fV t)<|λ_ e=>J e;have m:∀f,cN o=M f->∃g,wr.heap[f]?=M (aK g 235 (0,0)):=λf e=>gh h.aZ e;have s:I (λf=>cN o=M f) w1 w2:=((I.bI (λf=>cN o=M f) w1).aE u).aj (I.fV t)<|λ_ e=>J e;refine⟨v++[⟨n,dK 0 g,g,0⟩],⟨?_,by rw[ai,h.dL];rfl,?_,?_,h.aA.aj C aI⟩,?_⟩;rwa[bz];rw[bz,h.dq,aG F];show _++[g.flatten]=_;rw[i.f.p];let⟨P,D,x,E⟩:=h.bZ;have A:NT.Ok w1 (G<|H wr) ⟨⟨n,dK 0 g,g,0⟩,p,a,q,d⟩:=⟨z,z,by have:=i.f;rwa[<-this.p]at this,i.D,i.A,i.L,i.lY⟩;refine⟨P++[⟨⟨n,dK 0 g,g,0⟩,p,a,q,d⟩],by rw[bz,D];rfl,λN j=>?_,IN E<|λN j f e r=>?_⟩;obtain j|j:=aP.1 j;exact Xf.dN (x N j) C<|λf e=>aI;rw[bY]at j;subst j;refine Xf.dN (NT.Ok.pQ A U) s<|λf e=>?_;let⟨Q,B⟩:=m f e;exact⟨Q,_,_,(i.aA.A f (az B) id).trans B,cg,cg,cg⟩;have:=((x N j).lt f e).2;have:=(A.lt f r).1;omega;intro f e;obtain r|⟨x,r,j⟩:=t.f;(grind);rw[r]at e;cases e;simp at j;omega
def wM(h:lG a d i)(hs:gG i)(l:sq 5 i)(hg:∀ba∈i,ba.Good)(hl:y i<=3000000000)(hv:∀D,cN d=M D->D<G (H a))(hT:Steps a):cR bN 199 #[d] a λax x=>∃vm,∃g:dI,ax=aN vm/\fE x (G<|H a) 235 1 vm (y g) (g.map cH.D)/\g.map cH.dq=jq i/\sF x (G<|H a) g/\I aC a x:=by
 let⟨j0,S,al,an,ao⟩:=cZ yE;have v:=US h hs hl hv;let⟨ba,av,ac⟩:=cG h
 have E:=ak (show∀n(A:n<y (jq i))(wr:Z),I aC a wr->∃C b f,(qn d 0<|jq i)[n]?=M (bX C b (y (jq i)[n]) f)/\cR bN 131 #[bX C b (y (jq i)[n]) f] wr λax x=>∃B cs bb c db e,ax=aN (aJ B)/\Qz wr x B (jq i)[n] cs bb c db e from by
  intro n A wr Q;have u:(jq i)[n]∈jq i:=aB A;have s:=GL i _ u;have F:=Vs h (yr i) A s;let⟨C,b,f,t,L⟩:=F.Gg aI;have r:C<G (H a):=by
   let⟨V,o0,W,k,_⟩:=h.Gg<|gW ((DS u).length_le)<|ja.2 s;subst k;unfold Bz at t;cases t;exact hv _ z
  rw[t]at F;refine⟨C,b,f,by rw[JA d 0 (jq i) n A,t],?_⟩;obtain⟨_,⟨q,_⟩|⟨b',w,j,q,_,hc⟩⟩:=id F
  .cases q
  .cases q;have k:=DS u;exact Gb (jq i)[n] C b f wr (λD T=>Q.u (hT D T) id hT.lt) (au r Q.D) (λj d a=>Q.u (hc j d a) id r) L aI aI (hs.kE k) (λq c=>aR ((l.kE k).Hm q c) U) (bP (Jz l _ u)))
 have P:y (jq i)<=3000000000:=aR (zM i) hl;generalize jq i=p at*;have:=ak<|Bg d 0 p;let⟨N,O⟩:∃N,y p=N:=⟨_,rfl⟩;rw[O]at v P;subst ac;go_in
 go_wp21;go_call v as ax K⟨pv,rfl,m,o⟩;obtain⟨px,pc,rfl⟩:=aM m;go_wp2;go_loopw [3,9] (λo i wr=>∃n:R,n<=N/\i=ay n/\∃g,MU K wr (G<|H a) o p n g/\∀D,cN o=M D->G (H K)<=D) (λ_ i _=>N-(intOf i).toNat)
 exact⟨0,bQ _,z,[],⟨ct _ _ _ _,z,z,sF.km _ _,I.bI _ _⟩,(by intro D T;cases T)⟩
 .obtain⟨n,aD,rfl,g,f,r⟩:=hrel;let⟨ox,oc,ho⟩:=aM f.aZ;by_cases s:n<N
  .let⟨pg,aV,aa,_,ab,_⟩:=vy m U;cases aa;have u:n<y p:=by rwa[O]
   let⟨C,b,j,aU,t⟩:=E n u wr<|o.t f.aA;have:bA wr (X pg n)=M (bX C b (y p[n]) j):=by
    refine f.aA.u ?_ id ab;obtain⟨_,⟨av,_⟩|⟨b',w,L,av,_,hc⟩⟩:=dQ m
    .cases av
    grind
   have:=f.aA.D;have:(n:Y)<(N:Y):=U;have:(0:Y)<=(n:Y):=U;generalize Q:p[n]=pn at*;subst ho;go_wp21;go_call t as ax w4⟨B,cs,bb,c,db,e,rfl,k⟩;have:=k.aA.D;go_wp2_with(first
    |(at_builtin;go_loud(refine cq _ z (.tmp 13) (.tmp 16) 106 z (G (H a)) 235 j0 (.pointer none) 1 8 underlying106 S al an ao z cg (.slice ox n oc) n (g.map cH.D) z (bC (ak (k.aA.aZ f.aZ (λ_ _ av=>av))) _) (X (G (H w4)) 0) 1 1 [aJ B] z z (rG _ _ _) (by simp[Value.oneCell']) U U dW ?_;intro o2 w5 W ad;have A:=ak W;have F:=ak ad)))
   go_roundw
   .have k:=ag<|ak k;rw[<-Q]at k;let⟨ap,L,V⟩:=f.DC u (o.D:G (H a)<=G (H K)) r k A F;exact⟨n+1,s,dM,ap,L,V⟩
   .simp[intOf];omega
  .have k:n=N:=U;subst k;subst ho;go_wp2;go_ret;have f:=ag<|ak f;refine⟨_,g,z,f.dL▸f.aZ,?_,f.bZ,o.t f.aA⟩;rw[f.dq,<-O,cQ]
def GX(n C f D:R)(i:ae)(b c:dI)(h1:∀j(F:j<y b),bA a (X C<|f+j)=M b[j].D)(ao:C<n/\¬s.F C)(an:∀av∈b,nY s n av.tb av.ks av.cs a)(ap:y b<=20000000000)(h2:uE s n i c a)(hD:s.D a)(l:n<=G (H a))(hF:∀x,s.F x->x<n)(hl:y (eL<|gz c::b.map cH.dq)<=3000000000):cR bN 196 #[bX C f (y b) D,i] a λal o=>(∃vm,al=aN (de #[vm,ic])/\fE o (G<|H a) 223 4 vm (y<|eL<|gz c::b.map cH.dq) (bj<|eL<|gz c::b.map cH.dq)/\s.D o/\I s.F a o)\/Et s a o s.F al (λax=>de #[aF,ax]):=by
 let⟨i0,V,ab,ac,ad⟩:=cZ LV;have t:y (xJ i b c)=y b+1:=by simp[xJ]
 have m:∀wr d,I aC a wr->fE wr (G<|H a) 221 1 d (y b+1) ((xJ i b c).map (·.1))->cR bN 148 #[d,aw ⟨#[]⟩] wr λal o=>∃f e,al=aN f/\kA s n f (eL<|gz c::b.map cH.dq) e o/\s.D o/\I s.F wr o/\(∀x,e x->G (H wr)<=x):=by
  intro wr d L w;have k:la s n aC a wr:=L.bM l cY cY;have hn:=DJ n (xJ i b c) d ⟨#[]⟩ (t▸dQ w) (λx v=>⟨(w.lt x v).2,λO=>gW (hF x O)<|(w.lt x v).1⟩) U (by
   intro j F;cases j with
   |zero=>exact(nA.xL h2 l hF).bM k
   |succ j=>
    have r:j<y b:=by rw[t]at F;omega
    have:(xJ i b c)[j+1]=(.iface 235 b[j].D,b[j].dq):=by simp[xJ]
    rw[this];exact(nA.FB aI l hF).bM k) (s.l hD L cY) (aR l L.D) hF
  rwa[(by simp[xJ]:(xJ i b c).map (·.2)=gz c::b.map cH.dq),qh (g:=id)<|λl _=>Py l,wg]at hn
 let⟨NL,Q⟩:∃NL,eL (gz c::b.map cH.dq)=NL:=⟨_,rfl⟩;rw[Q]at m hl|-;go_in
 go_wp2;go_loopw [6,14] (λo j wr=>∃p:R,p<=y b/\j=ay p/\fE wr (G<|H a) 221 1 o (p+1) (((xJ i b c).take<|p+1).map (·.1))/\I aC a wr) (λ_ j _=>y b-(intOf j).toNat)
 exact⟨0,bQ _,z,H6 _ _ _,(cI _ _)⟩
 .obtain⟨p,hn,rfl,d,e⟩:=hrel;let⟨aU,O,w⟩:=aM d;have:=e.D;have:=d.lt;by_cases K:p<y b
  .have E:=(ak (show∀wr,I aC a wr->∀j(F:j<y b),bA wr (X C<|f+j)=M b[j].D fromλwr L j F=>L.u (h1 j F) id U)) wr e p K;have u:=ak (show((xJ i b c).take<|p+1+1).map (·.1)=((xJ i b c).take<|p+1).map (·.1)++[.iface 235<|aJ<|b[p].tb]from by
    rw[aG (by rw[t];omega),bz];simp[xJ,cH.D])
   unfold cH.D at E;generalize b[p].tb=N at*;subst w;go_wp2_with(first
    |(at_builtin;go_loud(refine cq _ z (.tmp 18) (.tmp 21) 218 z (G (H a)) 221 i0 ic 1 16 underlying218 V ab ac ad z cg (.slice aU (p+1) O) (p+1) (((xJ i b c).take (p+1)).map (·.1)) z (bC d _) (X (G (H wr)) 0) 1 1 [.iface 235 (aJ N)] z z (rG _ _ _) (by simp[Value.oneCell']) U U dW ?_;intro P w2 k B;have r:=ak k;have A:=ak B)))
   go_roundw
   .refine⟨p+1,K,dM,ag u▸r,?_⟩;exact(e.aE _).aj (I.fV A) aI
   .simp[intOf];omega
  .have W:p=y b:=U;subst W;rw[fB U]at d;have aa:=m wr u6 e d;subst w;go_wp21;go_call aa as al w1⟨v1,S1,rfl,S,P,N,E⟩;have B:=ak<|e.aT (T:=s.F) cY|>.aj N (λ_ O=>J O);have:=e.D;have:=N.D;go_wp21;go_call(ER S P U)as al w2(⟨aD,rfl,k,r,u⟩|⟨hX,q,rfl,hq,r,u⟩)
   .obtain⟨rx,rc,rfl⟩:=aM k;have A:=ak<|And.intro (fj (base':=G<|H a) k U) (And.intro r (B.aj u<|λx v=>v.elim (λO=>bu<|bP<|E x O) J));go_wp2;go_ret2
    exact J ⟨_,z,A.1,A.2.1,A.2.2⟩
   .have A:=ak<|show Et s a w2 s.F (aN<|de #[aF,eW q]) (λax=>de #[aF,ax])from⟨hX,q,z,hq,r,B.aj u<|λx v=>v.elim (λO=>bu<|bP<|E x O) J⟩;go_wp2;go_ret2
    exact bu A
def VO(n:R)(w:Z)(t:n<=20000000000):cR bN 192 #[aF,ay n] w λs q=>∃p,s=aN p/\fE q (G<|H w) 235 1 p 0 []/\I aC w q:=by
 let⟨o,j,k,r,e⟩:=cZ yE;have:¬((n:Y)<0):=U;obtain g|g:=fO n;(.subst g;(go_in);go_wp2;go_ret;exact⟨_,z,ct _ _ _ _,I.bI _ _⟩)
 .have b:(Builtin.firstCells o.size 0 aF).run bN w.drew=.ok ([]:iF).toArray w.drew:=rfl;have c:∀l,(Builtin.append_ #[106,3] l #[aF,ay n]).run bN w=_:=λl=>
   Lib.run_append_grow_zeros w 106 3 l 235 o (ee dE) .i64 .i64 underlying106 underlying3 j k dE 0 0 [] b n g U U U (by rw[e];omega) (uT U (by rw[e];omega))
  simp only[ez]at c;have i:n<=grownCap w n 0 235:=grownCap_ge w _ _ _;have a:=uU w n 0 235 (by unfold maxLen;omega);let⟨d,m⟩:∃d,d=grownCap w n 0 235:=⟨_,rfl⟩;rw[<-m]at c i a;have f:=ak<|show fE (dw w<|aK (Builtin.zeroCells #[ee dE] n++Builtin.zeroCells #[ee dE] (d-n)) 235).drew (G<|H w) 235 1 (bX (G<|H w) 0 0 d) 0 []from ku (World.ownsRow_made w _ d (aq _) a (by simp[size_zeroCells];omega)) z;have:d<=9223372036854775807:=by unfold maxLen at a;omega
  clear b m a;go_in
  go_wp2_with(at_builtin;refine Lib.wpList_append_run _ z _ _ _ _ z _ _ z z _ _ (c _) ?_)
  go_ret;exact⟨_,z,f,(cI aC w).df z⟩
def rY(a:cy (ae×dI)):iF:=(a.map<|λp=>p.2.map cH.D).flatten
def nC(a:cy (ae×dI)):R:=(a.map<|λp=>y p.2).sum
def RS(a:cy (ae×dI))(p:ae×dI):rY (a++[p])=rY a++p.2.map cH.D:=by simp[rY]
def Dz(a:cy (ae×dI))(p:ae×dI):nC (a++[p])=nC a+y p.2:=by simp[nC]
def AG(a:cy (ae×dI))(n:R):nC (a.take n)<=nC a:=by
 have h:=cD (λl=>(l.map (λp:ae×dI=>y p.2)).sum)<|du n a;simp only[bz,eY]at h;unfold nC;omega
def vN(x f s:R)(a:cy (ae×dI))(w:Z)(hc:∀i(k:i<y a),bA w (X x<|f+i)=M a[i].1)(hb:x<G (H w))(hr:∀i(k:i<y a),Row w 1 a[i].1 (y a[i].2)<|a[i].2.map cH.D)(Q:∀i(k:i<y a),∀aD,cN a[i].1=M aD->aD<G (H w))(hn:y a<=3000000000)(hs:nC a<=20000000000):cR bN 130 #[bX x f (y a) s] w λax w'=>∃v',ax=aN v'/\fE w' (G<|H w) 235 1 v' (nC a) (rY a)/\I aC w w':=by
 let⟨i0,v,ab,ac,ad⟩:=cZ yE;have HC:=ak (show∀wr,I aC w wr->∀i(k:i<y a),bA wr (X x<|f+i)=M a[i].1 fromλwr V i k=>V.u (hc i k) id hb);have HR:=ak (show∀wr,I aC w wr->∀i(k:i<y a),Row wr 1 a[i].1 (y a[i].2) (a[i].2.map cH.D)fromλwr V i k=>V.bV (hr i k) aI);clear hc hr Q;go_in
 go_wp2;go_loopw [3,11] (λF i wr=>∃n:R,n<=y a/\i=ay n/\F=ay (nC (a.take n):R)/\wr=w) (λ_ i _=>y a-(intOf i).toNat)
 exact⟨0,bQ _,z,z,z⟩
 .obtain⟨n,ao,rfl,rfl,ap⟩:=hrel;subst wr;by_cases g:n<y a
  .have c:=HC w (I.bI _ _) n g;have o:=HR w (I.bI _ _) n g;have p:=AG a<|n+1;have d:=ak (show nC (a.take<|n+1)=nC (a.take n)+y a[n].2 by rw[aG g,Dz]);rw[ag d]at p;generalize a[n].1=aV at*;generalize a[n].2=C at*;generalize nC (a.take n)=l at*;obtain⟨K,⟨rfl,A⟩|⟨av,j,r,rfl,L,t⟩⟩:=o
   .have b:=ak A;clear K A;go_wp2;go_roundw
    .exact⟨n+1,g,dM,by rw[ag d,ag b,mf],trivial⟩
    .simp[intOf];omega
   .clear K t;have:¬((l:Y)+(y C:Y)<0):=U;go_wp2;go_roundw
    .exact⟨n+1,g,dM,by rw[ag d];go_num,trivial⟩
    .simp[intOf];omega
  .have m:n=y a:=U;subst m;rw[cQ];have u:=VO (nC a) w U;let⟨n5,B⟩:∃n5,nC a=n5:=⟨_,rfl⟩;rw[B]at u hs|-;go_wp21;go_call u as ax w1⟨v1,rfl,O,W⟩;go_wp2;go_loopw [6,27] (λo i wr=>∃n:R,n<=y a/\i=ay n/\fE wr (G<|H w) 235 1 o (nC<|a.take n) (rY<|a.take n)/\I aC w wr) (λ_ i _=>y a-(intOf i).toNat)
   .exact⟨0,bQ _,z,O,W⟩
   .obtain⟨n,al,rfl,b,e⟩:=hrel;have:=b.lt;have S:=e.D;have:=AG a n;by_cases c:n<y a
    .have:=HC wr e n c;have o:=HR wr e n c;have p:=AG a<|n+1;have d:=ak (show nC (a.take<|n+1)=nC (a.take n)+y a[n].2 by rw[aG c,Dz]);have q:=ak (show rY (a.take<|n+1)=rY (a.take n)++a[n].2.map cH.D by rw[aG c,RS]);rw[ag d,B]at p;generalize a[n].1=aV at*;generalize a[n].2=C at*;generalize rY (a.take n)=pn at*;generalize nC (a.take n)=l at*;let⟨an,F,N⟩:=aM b;subst N;obtain⟨K,⟨rfl,A⟩|⟨av,j,r,rfl,L,t⟩⟩:=o
     .obtain rfl:=bG A;have D:∀a,(Builtin.append_ #[106,106] a #[am an l F,aF]).run bN wr=.ok (am an l F) wr:=λa=>zf wr (G<|H w) 106 a 235 i0 1 underlying106 v (am an l F) l pn b;go_wp2_with(at_builtin;refine Lib.wpList_append_run _ z _ _ _ _ z _ _ z z _ _ (D _) ?_)
      go_roundw
      .refine⟨n+1,c,dM,?_,e⟩;rw[ag d,ag q];simpa using b
      .simp[intOf];omega
     .go_wp2_with(first
       |(at_builtin;go_loud(refine cq _ z (.tmp 31) (.tmp 32) 106 z (G (H w)) 235 i0 (.pointer none) 1 8 underlying106 v ab ac ad z cg (.slice an l F) l pn z b (X av j) (y C) r (C.map cH.D) z ar (λba aU hj=>by rw[dS];grind) (by intro aU hu;obtain⟨bb,_,rfl⟩:=cC.1 hu;rfl) U U S ?_;intro o2 w2 P aa;have D:=ak P;have E:=ak aa)))
      go_roundw
      .refine⟨n+1,c,dM,ag d▸ag q▸D,?_⟩;exact e.aj (I.fV E) aI
      .simp[intOf];omega
    .have m:n=y a:=U;subst m;rw[cQ,B]at b;obtain⟨an,F,N⟩:=aM b;subst N;go_wp2;go_ret;exact⟨_,z,by rw[B];exact b,e⟩
structure Fw(w:Z)(lb lo:R)(Ls:cy (ae×dI)):Prop where
 dL:y Ls=4
 u:∀i(hi:i<y Ls),bA w (X lb<|lo+i)=M Ls[i].1
 bV:∀i(hi:i<y Ls),Row w 1 Ls[i].1 (y Ls[i].2)<|Ls[i].2.map cH.D
 l:∀i(hi:i<y Ls),∀k,cN Ls[i].1=M k->k<G (H w)
 f:nC Ls<=20000000000
def Fw.lt{w:Z}{a:cy (ae×dI)}(h:Fw w c n a):c<G (H w):=cA w (X c<|n+0)<|h.u 0<|bP h.dL
def uA{w:Z}{lb lo:R}(a:cy (ae×dI))(h:Fw w lb lo a):cR bN 127 #[ee<|M<|X lb lo] w λg w'=>∃c,g=aN c/\fE w' (G<|H w) 235 1 c (nC a) (rY a)/\I aC w w':=by
 have b:=vN lb lo 4 a w h.u h.lt h.bV h.l (bP h.dL) h.f;rw[h.dL]at b;clear h;go_in
 go_wp21;go_call b as g i⟨f,rfl,d,e⟩;go_wp2;go_ret;exact⟨f,z,d,e⟩
def lu(a:cy (ae×dI))(n:R):eN:=(a.drop n).all<|λp=>p.2.isEmpty
def Ic{a:cy (ae×dI)}(h:b<y a):lu a b=(a[b].2.isEmpty&&lu a (b+1)):=by
 unfold lu;rw[dm h,List.all_cons]
def EL{w:Z}{lb lo:R}(n:R)(c:cy (ae×dI))(h:Fw w lb lo c)(N:n<=4):cR bN 197 #[ee<|M<|X lb lo,ay n] w λF E=>F=aN (aO<|lu c n)/\E=w:=by
 have e:=h.dL;have:=h.f;have u:=ak h.u;have v:=ak h.bV;clear h;obtain B|B:=iU n 4;(.have:(n:Y)<=4:=U;have:¬(4-n=0):=U;have:¬(4=n):=U;have:(0:Y)<=(n:Y):=U;(go_in);go_wp2;(go_loopw [12] (λt wr=>∃m:R,n+m<=4/\t=ay m/\lu c n=lu c (n+m)/\wr=w) (λt _=>4-n-(intOf t).toNat));(grind);obtain⟨m,L,rfl,b,o⟩:=hrel;subst wr;by_cases D:m<4-n;(.have k:n+m<y c:=U;have j:=u (n+m) k;have l:=v (n+m) k;have d:=Ic k;rw[<-bJ]at j;generalize c[n+m].1=P at*;generalize c[n+m].2=r at*;have A:(m:Y)<((4-n:R):Y):=U;obtain⟨i,⟨rfl,s⟩|⟨O,q,x,rfl,C,f⟩⟩:=l;(.obtain rfl:=bG s;clear i s;go_wp2;go_roundw;exact⟨m+1,U,dM,by rw[b,d];rfl,trivial⟩;simp[intOf];omega);obtain p|p:=fO<|y r;(.obtain rfl:=bG p;clear i f p;go_wp2;go_roundw;exact⟨m+1,U,dM,by rw[b,d];rfl,trivial⟩;simp[intOf];omega);have g:r.isEmpty=bD:=aI;rw[g,zp]at d;clear i f g;have K:(0:Y)<(y r:Y):=U;go_wp2;go_ret;exact⟨by rw[b,d];rfl,z⟩);have d:n+m=4:=U;(have a:lu c n=cz:=by rw[b,d,<-e];unfold lu;rw[li];rfl);have f:=ak a;have A:¬(m:Y)<((4-n:R):Y):=U;clear a b d;go_wp2;go_ret;exact⟨by rw[ag f];rfl,z⟩);obtain rfl:n=4:=U;(have a:lu c 4=cz:=by rw[<-e];unfold lu;rw[li];rfl);rw[a];(go_in);go_wp2;(go_loopw [12] (λt wr=>t=ay 0/\wr=w) (λ_ _=>0));(grind);obtain⟨rfl,o⟩:=hrel;subst wr;go_wp2;go_ret;simp_all
def p5(h:l.Sublist v):lU l<=lU v:=by
 induction h with
 |slnil=>grind
 |cons x _ a=>unfold lU at*;grind
 |cons_cons x _ a=>unfold lU at*;grind
def LH{w:Z}(b c o:R){g:ae}{ts1 m:dI}(hi:o+1<4)(c1:bA w (X b<|c+o)=M d)(c2:bA w (X b<|c+(o+1))=M g)(x:b<G (H w))(S:jY w d ts1)(h2:jY w g m)(hs:Dk m)(av:0<y ts1)(ao:lU m<=20000000000):cR bN 194 #[ee<|M<|X b c,ay o] w λn e=>∃L:R,n=aN (ay L)/\L<y ts1/\gD (G<|H w) w e:=by
 obtain⟨_,h0⟩|⟨b1,bc,bb,rfl,_⟩:=S.fS;grind
 have:=S.f;have:(o:Y)<4:=U;have:(0:Y)<=(o:Y):=U;let⟨O,P,HS,N⟩:=js S h2 hs c2;go_in
 go_wp2;go_loopw [5,6,19] (λa le n wr=>∃L ba k:R,L<y ts1/\ba<=9223372036854775807/\k<=y ts1/\a=ay L/\le=ay ba/\n=ay k/\gD (G<|H w) w wr) (λ_ _ n _=>y ts1-(intOf n).toNat)
 exact⟨0,9223372036854775807,0,av,aq _,bQ _,z,z,z,Below.refl _ _⟩
 .obtain⟨L,ba,k,hj,hm,hk,rfl,rfl,rfl,t⟩:=hrel;by_cases a:k<y ts1
  .have i:=O.dD t;have V:=P.dD t;have hp:=i.u a;have c2:bA wr (X b<|c+(o+1))=M g:=(t.cell (p:=(X b<|c+(o+1))) x).trans N;have u:∀W,W.heap=wr.heap->cR bN 184 #[ts1[k].D] W λn e=>n=aN (aw<|iq ts1[k].ks)/\e=W:=λW j=>((i.bZ _<|aB a).df j).eJ;have v:∀W,W.heap=wr.heap->cR bN 183 #[ts1[k].D] W λn e=>n=aN (aw<|iR ts1[k].ks)/\∃q,e=W.drewN q:=λW j=>((i.bZ _<|aB a).df j).eP;have hcut:∀W,W.heap=wr.heap->W.os=wr.os->W.tape=wr.tape->W.output=wr.output->cR bN 195 #[g,aw<|iq ts1[k].ks,aw<|iR ts1[k].ks] W λn e=>∃E B F,n=aN (de #[E,B,F])/\(∃D,jY e B D/\lU D<=20000000000)/\gD (G<|H w) w e/\bA e (X b<|c+(o+1))=M g:=by
    intro W j aa ab ac;go_call Pe (iq ts1[k].ks) (iR ts1[k].ks) (V.df j) HS as n e⟨bg,g9,E,B,F,rfl,_,_,aU,_,_,f⟩;have l:gD (G<|H w) w W:=t.of_heap (by rw[j,aa,ab,ac]);exact⟨E,B,F,z,⟨_,aU,aR (p5<|(rM _ _).trans<|mW _ _) ao⟩,l.trans<|f.mono l.size,(f.cell (p:=(X b<|c+(o+1)))<|au x l.size).trans<|(dZ (w:=wr)<|by rw[j]).trans c2⟩
   unfold cH.D at hp u v;generalize iq ts1[k].ks=s1 at*;generalize iR ts1[k].ks=s2 at*;generalize ts1[k].tb=j8 at*;let⟨p,ax⟩:∃p,o+1=p:=⟨_,rfl⟩;rw[ax]at c2 hcut hi;have:(o:Y)+1=(p:Y):=U;have:(p:Y)<4:=U;have:(0:Y)<=(p:Y):=U;have:IntKind.i64.wrap (p:Y)=(p:Y):=by rw[bR];omega
   have:p<4:=U;go_wp21;rename_i QQ KK bd;go_region_held3(λa=>bA a (X b<|c+p)=M g) (first|assumption|go_keep) (first
    |(go_at_call 184;refine(u wr.drew z).mono ?_;rintro n K⟨rfl,aV⟩;subst K;have A:bA wr.drew (X b<|c+p)=M g:=c2)
    |(go_at_call 183;refine(v wr.drew z).mono ?_;rintro n K⟨rfl,q,aV⟩;subst K;have A:bA (wr.drew.drewN q) (X b<|c+p)=M g:=c2)
    |(go_at_call 195;refine(hcut (wr.drewN (1+q)) z z z z).mono ?_;rintro n K⟨E,B,F,rfl,aD,al,A⟩;have Q:=ak aD;have s:=ak al))
   let⟨D,T,an⟩:=ag Q;have ap:=BQ T an;generalize lU D=C at*;go_wp21;go_call ap as n w2⟨rfl,ad⟩;have r:=ak<|s.trans<|ad.mono s.size;by_cases bf:C<ba
   .have f:(C:Y)<(ba:Y):=U;go_wp2;go_roundw
    .exact⟨k,C,k+1,a,U,a,z,z,dM,r⟩
    .simp[intOf];omega
   .have:¬(C:Y)<(ba:Y):=U;go_wp2;go_roundw
    .exact⟨L,ba,k+1,hj,hm,a,z,z,dM,r⟩
    .simp[intOf];omega
  .have f:k=y ts1:=U;subst f;go_wp2;go_ret;exact⟨L,z,hj,t⟩
def vB(b:eD)(a:eN)(c:iG):(uz b a c).Sublist (gw b<|eL c):=by
 unfold uz;grind[nV]
def vC{ms:eD}{lowest:eN}(b:yP (eL O))(e:∀x∈eL O,x.Good)(d:y (eL O)<=3000000000)(f:y ms<=4):gG (uz ms lowest O)/\sq 5 (uz ms lowest O)/\(∀x∈uz ms lowest O,x.Good)/\y (uz ms lowest O)<=3000000000:=by
 have a:=vB ms lowest O;have c:=a.trans<|oF ms<|eL O;exact⟨(zQ b ms).kE a,((AD b).kE a).aT U,aI,aR c.length_le d⟩
def JG{V:jv}{W:Z}{ms:eD}{mx:Option Addr}{mc:R}(a:dB)(r:Row W 1 (am mx (y ms) mc) (y ms) (ms.map<|Value.int .u64))(l:∀k,cN (am mx (y ms) mc)=M k->k<G (H W)/\¬V.F k)(s:y ms<=4)(p:yP a)(o:y a<=3000000000):(∀(b:Z)(e:R)(m:Option Addr)(i:R),I V.F W b->fE b e 223 4 (am m (y a) i) (y a) (bj a)->cR bN 94 #[am m (y a) i,am mx (y ms) mc] b λq g=>∃f,q=aN f/\fE g (G<|H b) 223 4 f (y<|gw ms a) (bj<|gw ms a)/\I aC b g)/\(∀(h:Z)(e:R)(n:Option Addr)(j:R),fE h e 223 4 (am n (y<|gw ms a) j) (y<|gw ms a) (bj<|gw ms a)->cR bN 198 #[am n (y<|gw ms a) j] h λq g=>∃f,q=aN f/\fE g (G<|H h) 223 4 f (y<|kN<|gw ms a) (bj<|kN<|gw ms a)/\I aC h g):=by
 constructor;exactλb e m i a d=>yx ms (dQ d) p o (a.bV r aI) U (λk c=>(d.lt k c).2)<|λk c=>au (l k c).1 a.D;exactλh e n j d=>Ql (dQ d) (zQ p ms) (aR (oF ms a).length_le o)<|λk c=>(d.lt k c).2
section
open Shelf
attribute [local go_sem] Oper.semAt_some
def bk(a:iF):R->cy (R×ae)
 |0=>[]
 |j+1=>(j,a.getD j ic)::bk a j
def O8(p:R×ae):Array ae:=#[ay p.1,p.2]
def MC(v:ae)(x:Option Addr)(n c:R)(a:v=am x n c)(w:Z):cR bN 229 #[v] w λe b=>e=aN (.func (.func 268) #[] #[aJ<|G<|H w])/\b=dw w (aK #[v] 106):=by
 subst a;go_in
 go_wp2;go_ret;simp_all
def Tl(w aD:R)(K:fF a b d 106)(V:Row a 1 d (y Q) Q)(t:∀n,cN d=M n->n<w)(O:w<=G (H a))(al:y Q<=20000000000):Qx O8 CY w aD 268 #[aJ b] (bk Q<|y Q) (λn=>n=b) a:=by
 intro lr ap Jx ao av W hD hJ F N P hY;let⟨an,ad,hv⟩:=cG V;have:bA av (X b 0)=M d:=W.u (J z) K.u;clear P hD;subst hv;refine th func268 z trivial ?_ z;simp only[ntmps268,gp,bK,eE,ke,Nat.reduceSub,fh,fc,gq,fH,ep,dt];gi_wp2;gi_loopw [3] (λi wr=>∃(j:R)(f:cy (R×ae))(p:fC),i=ay ((j:Y)-1)/\j<=y Q/\bk Q (y Q)=f++bk Q j/\ap f p wr/\(∀n,n=b->¬p n)/\la CY w (λn=>n=b) a wr) (λi _=>(intOf i+1).toNat)
 exact⟨y Q,[],ao,dM,aq _,z,hJ,F,W⟩
 .obtain⟨j,f,p,rfl,hj,l,i,g,c⟩:=hrel;have:bA wr (X b 0)=M (am an (y Q) ad):=c.u (J z) K.u;cases j with
  |zero=>
   have e:=ak l;clear g c l;gi_wp2;refine xW (jc z _ _ _) z ?_;refine⟨⟨_,z⟩,J ⟨p,?_,trivial⟩⟩;have l:=ag e;rw[show bk Q 0=[]from rfl,eu]at l;rw[l];exact i
  |succ j=>
   have S:(((j+1:R):Y)-1)=(j:Y):=U;rw[S];have o:Q.getD j ic=Q[j]:=by rw[uZ,bF hj];rfl
   have r:∃ac e,an=M (X ac e)/\bA wr (X ac<|e+j)=M Q[j]:=by
    obtain⟨h1,⟨D,h0⟩|⟨ax,s,x,D,ab,hc⟩⟩:=V
    .omega
    .cases D;exact⟨ax,s,z,c.u (bu ⟨t _ z,id⟩) aI⟩
   let⟨ac,e,v,r⟩:=r;have m:(f++[(j,Q[j])])<+:bk Q (y Q):=⟨bk Q j,by rw[l,show bk Q (j+1)=(j,Q.getD j ic)::bk Q j from rfl,o];simp⟩;have L:bk Q (y Q)=(f++[(j,Q[j])])++bk Q j:=by rw[l,show bk Q (j+1)=(j,Q.getD j ic)::bk Q j from rfl,o];simp
   let⟨fn,aa,u,body,hy,T⟩:=hY f (j,Q[j]) p wr m i trivial;unfold O8 at hy;simp only at hy;let⟨B,A,C⟩:=eU T i c;clear i c l m T o S;generalize Q[j]=xj at*;have:(j:Y)<(y Q:Y):=U;have:(0:Y)<=(j:Y):=U;subst v;gi_wp2;refine⟨(λad=>(by cases ad)),B.mono ?_⟩;rintro aU W3(⟨rfl,_,B3,q,k,E⟩|⟨rfl,v⟩)
   .have x:=ak q;have D:=ak k;clear q k;gi_wp2;go_roundw
    .have k:=ag D;have c:=ag C;have:b<G (H wr):=au (az K) c.1;refine⟨j,f++[(j,xj)],B3,dM,U,L,x,λn s ab=>?_,?_⟩
     .obtain ab|ab:=E n ab
      .exact g n s ab
      grind
     .refine c.aj ?_;exact k.bM (aR O c.1) (λn s=>⟨aI,g n s⟩)<|λn s a=>bP<|(N _ _ _ A n s).1
    .simp[intOf]
   .have s:=ak v;clear v;gi_wp2;exact ci (jc z _ _ _) z ⟨⟨_,z⟩,bu ⟨_,s⟩⟩
end
def qO{b:Func}{D O:Tmp}(h:b.results=#[.cell D 108,.tmp O])(a:Array ae)(w:Z)(g:R)(d e f i:ae)(N:TypeId)(c:R×R)(q:a.getD D jn=aJ g)(p:w.heap[g]?=M (aK #[d,e,f,i] N c))(j:∃x n k,d=am x n k)(l:∃x n k,e=am x n k)(m:∃x n k,f=am x n k)(o:∃x n k,i=am x n k):(results b a).run bN w=.ok (de #[ef #[d,e,f,i],a.getD O jn]) w:=by
 obtain⟨E,v,r,rfl⟩:=j;obtain⟨F,A,s,rfl⟩:=l;obtain⟨K,B,t,rfl⟩:=m;obtain⟨L,C,u,rfl⟩:=o;simp[results,h,(dV q:a[D]?.getD jn=aJ g),asAddr,(kQ (P:=bN) w g N 108 #[am E v r,am F A s,am K B t,am L C u] c _ p underlying108 rfl aH),Result.andThen]
def DV{d e f g a' b' c' d':ae}{t:TypeId}{c:R×R}(h:a.heap[b]?=M (aK #[d,e,f,g] t c)):(cP (cP (cP (cP a (X b 0) a') (X b 1) b') (X b 2) c') (X b 3) d').heap[b]?=M (aK #[a',b',c',d'] t c):=by
 rw[(aY (i:=3) (u:=d')<|aY (i:=2) (u:=c')<|aY (i:=1) (u:=b')<|aY (i:=0) (u:=a') h)];simp
abbrev bL(v:ae):ae:=de #[ef #[aF,aF,aF,aF],v]
def A0{b q:R}(g:s.Xp)(i:tD e q)(f:s.D e)(j:I s.F a e)(h:e.heap[b]?=M (aK #[aF,aF,aF,aF] 108 (0,0)))(m:G (H a)<=b)(l:¬s.F b):∀d,d=cP (cP (cP (cP e (X b 0) aF) (X b 1) aF) (X b 2) aF) (X b 3) aF->d.heap[b]?=M (aK #[aF,aF,aF,aF] 108 (0,0))/\Et s a d s.F (aN<|bL<|eW q) bL:=by
 rintro d rfl;have c:I (λk=>k=b) e (cP (cP (cP (cP e (X b 0) aF) (X b 1) aF) (X b 2) aF) (X b 3) aF):=(((iQ b e).aL _ 1 _<|J z).aL _ 2 _<|J z).aL _ 3 _<|J z;exact⟨(DV (a':=aF) (b':=aF) (c':=aF) (d':=aF) h),g,q,z,i.aA c (λk b _=>by rw[b];grind),s.l f c aI,j.aj c aI⟩
def WC(Q i f:R)(x1 x A:Option Addr)(n1 u v c1 c2 c3:R)(d:dI)(O P:dI)(bk:Row a 1 (bX Q i (y d) f) (y d) (d.map cH.D))(ap:Q<b/\¬s.F Q)(bv:∀dT∈d,nY s b dT.tb dT.ks dT.cs a)(h1:uE s b (am x1 n1 c1) l a)(dd:Row a 1 (am x u c2) (y O) (O.map cH.D))(dk:Row a 1 (am A v c3) (y P) (P.map cH.D))(cr:∀n,cN (am x u c2)=M n->n<b/\¬s.F n)(cs:∀n,cN (am A v c3)=M n->n<b/\¬s.F n)(hD:s.D a)(ad:b<=G (H a))(hF:∀n,s.F n->n<b)(hT:Steps a)(cc:1<b/\¬s.F 1)(aD:y d+y l+y O+y P<=3000000000)(p:eD)(mx:Option Addr)(mc:R)(hm:Row a 1 (am mx (y p) mc) (y p) (p.map<|Value.int .u64))(cT:∀n,cN (am mx (y p) mc)=M n->n<b/\¬s.F n)(ch:y p<=4)(c:eN)(ba:c=(O.isEmpty&&P.isEmpty))(hs:yP (eL<|gz l::d.map cH.dq))(hg:∀ei∈eL (gz l::d.map cH.dq),ei.Good)(hl:y (eL<|gz l::d.map cH.dq)<=3000000000):cR bN 132 #[ef #[bX Q i (y d) f,am x1 n1 c1,am x u c2,am A v c3],ay 0,am mx (y p) mc] a λW w=>(∃D bc B,∃e:dI,W=aN (de #[ef #[aF,am D bc B,am x u c2,am A v c3],ic])/\fE w (G<|H a) 235 1 (am D bc B) (y e) (e.map cH.D)/\e.map cH.dq=jq (yA p c d l)/\sF w (G<|H a) e/\s.D w/\I s.F a w)\/Et s a w s.F W bL:=by
 have hW:I aC a (dw (dw a<|aK #[bX Q i (y d) f,am x1 n1 c1,am x u c2,am A v c3] 108)<|aK #[aF,aF,aF,aF] 108):=(cI _ a).aE _;generalize ax:dw (dw a<|aK #[bX Q i (y d) f,am x1 n1 c1,am x u c2,am A v c3] 108) (aK #[aF,aF,aF,aF] 108)=aV at hW;have av:aV.heap[G<|H a]?=M (aK #[bX Q i (y d) f,am x1 n1 c1,am x u c2,am A v c3] 108 (0,0)):=by rw[<-ax];grind[gy,aQ]
 have bf:∀n,b<=n->¬s.F n:=aI
 have ce:∀r,I s.F aV r->Fw r (G<|H a) 0 [(bX Q i (y d) f,d),(am x1 n1 c1,l),(am x u c2,O),(am A v c3,P)]:=by
  intro r ab;have bb:∀bm c,Row a 1 bm (y c) (c.map cH.D)->(∀n,cN bm=M n->n<b/\¬s.F n)->Row r 1 bm (y c) (c.map cH.D):=λbm c hr C=>
   ab.bV (hW.bV hr aI) aI
  have bx:=(ab.A _ (az av)<|bf _ ad).trans av;have cM:∀N bm,(#[bX Q i (y d) f,am x1 n1 c1,am x u c2,am A v c3]:Array ae)[N]?=M bm->bA r (X (G<|H a)<|0+N)=M bm:=by
   intro N bm hv;rwa[cE bx,ez]
  refine⟨z,λN hi=>?_,λN hi=>?_,λN hi n C=>?_,by simp[nC];omega⟩
  .match N,hi with
   |0,_=>grind
   |1,_=>grind
   |2,_=>grind
   |3,_=>grind
  .match N,hi with
   |0,_=>exact bb _ _ bk (λn W=>by cases W;exact ap)
   |1,_=>exact bb _ _ h1.bV<|λn W=>h1.l n W
   |2,_=>grind
   |3,_=>grind
  .match N,hi with
   |0,_=>cases C;grind
   |1,_=>exact au (h1.l n C).1<|aR ad (aR hW.D ab.D:G (H a)<=G (H r))
   |2,_=>grind
   |3,_=>grind
 have ac:∀r,I s.F aV r->cR bN 197 #[aJ<|G<|H a,ay 2] r λW w=>W=aN (aO c)/\w=r:=by intro r ab;have h:=EL (w:=r) (lb:=G<|H a) (lo:=0) 2 _ (ce _ ab) U;(have he:lu [(bX Q i (y d) f,d),(am x1 n1 c1,l),(am x u c2,O),(am A v c3,P)] 2=c:=by rw[ba];simp[lu]);rw[he]at h;exact h
 have cj:∀q,cR bN 196 #[bX Q i (y d) f,am x1 n1 c1] (aV.drewN q) λW w=>(∃c,W=aN (de #[c,ic])/\fE w (G<|H aV) 223 4 c (y<|eL<|gz l::d.map cH.dq) (bj<|eL<|gz l::d.map cH.dq)/\s.D w/\I s.F (aV.drewN q) w)\/Et s (aV.drewN q) w s.F W (λbm=>de #[aF,bm]):=by intro q;have bb:I aC a (aV.drewN q):=hW.df z;have aD:=(λr ht=>ht.bM ad cY cY:∀r,I aC a r->la s b aC a r) _ bb;refine GX b Q i f (am x1 n1 c1) d l ?_ ap (λdT ht=>(bv dT ht).bM aD) U (h1.bM aD) (s.l hD bb cY) (aR ad bb.D) hF hl;intro N hi;obtain⟨_,⟨dv,_⟩|⟨b',cM,bx,dv,_,hc⟩⟩:=bk.bM aD (λn W=>by cases W;exact ap);cases dv;grind
 have bE:=JG (V:=s) (W:=aV) (ms:=p) (mx:=mx) (mc:=mc) (eL<|gz l::d.map cH.dq) (hW.bV hm aI) aI ch hs hl;have ca:∀r,I s.F aV r->Steps r:=λr ht n C=>ht.u (hW.u (hT n C) id hT.lt) cc.2 aI;have cb:gG (yA p c d l)/\sq 5 (yA p c d l)/\(∀ei∈yA p c d l,ei.Good)/\y (yA p c d l)<=3000000000:=vC hs hg hl ch;let⟨bn,al,cm,cn,bo,co,an,HW,V⟩:=Hp av (ax▸aQ _ ar:aV.heap[G (H a)+1]?=M (aK #[aF,aF,aF,aF] 108 (0,0))) ac cj bE ca cb hW bf;have ec:∀e:dI,e.map cH.dq=jq (yA p c d l)->y e<=20000000000:=by intro e h;have:=cD y h;rw[cS]at this;have:=zM<|yA p c d l;omega
 have cp:=ak ax;have ed:=hW.D;have ck:yA p c d l=if c then kN (gw p<|eL<|gz l::d.map cH.dq)else gw p (eL<|gz l::d.map cH.dq):=rfl;have br:=ak ck;clear bk ap bv h1 dd dk cr cs hD hF hT cc ba hg hl hs hm cT av ce ac cj bE ca cb hW bf ax ck;generalize eL (gz l::d.map cH.dq)=ML at*;generalize yA p c d l=bt at*;go_in
 go_wp21;go_quiet(fail)
 rw[ag cp];go_wp21;go_call(cn nq)as W E(⟨ds,rfl,F,aa,L⟩|⟨cu,q1,rfl,dc,aa,L⟩);rotate_left;(.have g:I s.F aV E:=(gP s.F aV nq).aj L<|λ_ h=>J h;have j:=(g.A _ (az al)<|V _ U).trans al;have q0:=aX j 0;have bb:=aX j 1;have q2:=aX j 2;have q3:=aX j 3;have g0:=cV (i:=0) j;have g1:=cV (i:=1) j;have g2:=cV (i:=2) j;have g3:=cV (i:=3) j;go_wp2;let⟨r1,r2⟩:=(ak<|A0 cu dc aa ((HW.aT (T:=s.F) cY).aj g<|λ_ h=>J h) j U<|V _ U) _ rfl;apply ci (qO z _ _ (G (H a)+1) aF aF aF aF _ _ z r1 ⟨_,_,_,z⟩ ⟨_,_,_,z⟩ ⟨_,_,_,z⟩ ⟨_,_,_,z⟩) z;exact bu r2);have g:I s.F aV E:=(gP s.F aV nq).aj L<|λ_ h=>J h;obtain⟨m,k,rfl⟩:=aM F;have bs:=ak g;go_wp21;go_call(bo.1 E _ m k g F)as W S⟨vn,rfl,bi,cl⟩;have t:I s.F aV S:=bs.t cl;have bT:=s.l (ak aa) cl cY;obtain⟨xn,dx,rfl⟩:=aM bi;have ac:=cm S t;have cx:=bo.2 S _ xn dx bi;have:=bs.D;cases c;(case' false=>obtain rfl:bt=gw p ML:=ag br;go_wp21;go_call ac as W bl⟨rfl,dr⟩;subst bl;let⟨bd,ao,bp⟩:=eU (fj (base':=G<|H a) bi U) t bT;generalize S=w3 at*);(case' true=>obtain rfl:bt=kN (gw p ML):=ag br;go_wp21;go_call ac as W bl⟨rfl,dr⟩;subst bl;go_wp21;go_call cx as W w3⟨vb,rfl,bb,bx⟩;obtain⟨xn,dx,rfl⟩:=aM bb;let⟨bd,ao,bp⟩:=eU (fj (base':=G<|H a) bb<|bP t.D) (t.t bx)<|s.l bT bx cY)
 all_goals
  have db:=wM (dQ bd) an.1 an.2.1 an.2.2.1 an.2.2.2 (λn C=>(bd.lt n C).2)<|co w3 ao;go_wp21;go_call db as W E⟨ds,e,rfl,F,cv,bg,L⟩;have g:I s.F aV E:=ao.t L;have aa:=s.l bp L cY;have:=ao.D;obtain⟨m,k,rfl⟩:=aM F;have cd:=(g.A _ (az bn)<|V _ ad).trans bn;have j:=(g.A _ (az al)<|V _ U).trans al;have:=g.D;have bg:=bg.pQ (base':=G<|H a) U;have hC:cR bN 130 #[bX (G<|H E) 0 3 3] (dw E<|aK #[aF,am m (y e) k,aF] 106) λW w=>∃v',W=aN v'/\fE w (G<|H a) 235 1 v' (y e) (e.map cH.D)/\I aC E w:=by
   have:∀N bm,(#[am dE 0 0,am m (y e) k,aF]:Array ae)[N]?=M bm->bA (dw E<|aK #[aF,am m (y e) k,aF] 106) (X (G<|H E)<|0+N)=M bm:=by
    simp_all
   have dn:Row (dw E<|aK #[aF,am m (y e) k,aF] 106) 1 (am m (y e) k) (y e) (e.map cH.D):=dQ<|bC F _;have h:=vN (G<|H E) 0 3 [(am dE 0 0,[]),(am m (y e) k,e),(am dE 0 0,[])] (dw E<|aK #[aF,am m (y e) k,aF] 106) ?_ ar ?_ ?_ ar (by simp[nC];grind)
   .have e1:nC [(am dE 0 0,[]),(am m (y e) k,e),(am dE 0 0,[])]=y e:=by simp[nC]
    have e2:rY [(am dE 0 0,[]),(am m (y e) k,e),(am dE 0 0,[])]=e.map cH.D:=by simp[rY]
    rw[e1,e2]at h;go_call h as W w⟨v',rfl,ho,ht⟩;exact⟨v',z,fj ho dW,(cI aC E).t ht⟩
   .grind
   .intro N hi;match N,hi with
    |0,_=>exact⟨z,J ⟨z,z⟩⟩
    |1,_=>exact dn
    |2,_=>exact⟨z,J ⟨z,z⟩⟩
   .intro N hi n C;match N,hi with
    |0,_=>cases C
    |1,_=>have:=(aS F n C).2;simp;omega
    |2,_=>cases C
  go_wp21;go_call hC as W S⟨eg,rfl,bh,K⟩;obtain⟨D,B,rfl⟩:=aM bh;have vT:=(K.A _ (az cd) id).trans cd;have o:=(K.A _ (az j) id).trans j;have:=aX vT 0;have:=aX vT 1;have:=aX vT 2;have:=aX vT 3;have:=cV (i:=0) vT;have:=cV (i:=1) vT;have:=aX o 0;have:=aX o 1;have:=aX o 2;have:=aX o 3;have:=cV (i:=0) o;have:=cV (i:=1) o;have:=cV (i:=2) o;have:=cV (i:=3) o;let⟨eb,t,ea⟩:=eU bh K o;have bq:=ak (show∀wf,wf=cP (cP (cP (cP (cP (cP S (X (G<|H a) 0) aF) (X (G<|H a) 1)<|am D (y e) B) (X (G (H a)+1) 0) aF) (X (G (H a)+1) 1)<|am D (y e) B) (X (G (H a)+1) 2)<|am x u c2) (X (G (H a)+1) 3) (am A v c3)->wf.heap[G (H a)+1]?=M (aK #[aF,am D (y e) B,am x u c2,am A v c3] 108 (0,0))/\fE wf (G<|H a) 235 1 (am D (y e) B) (y e) (e.map cH.D)/\sF wf (G<|H a) e/\s.D wf/\I s.F a wf from by
   rintro wf rfl;have hx:((cP (cP S (X (G<|H a) 0) aF) (X (G<|H a) 1)<|am D (y e) B)).heap[G (H a)+1]?=M (aK #[aF,aF,aF,aF] 108 (0,0)):=(kV _ U).trans<|(kV _ U).trans o;have aU:I (λn=>n=G (H a)\/n=G (H a)+1) S (cP (cP (cP (cP (cP (cP S (X (G<|H a) 0) aF) (X (G<|H a) 1)<|am D (y e) B) (X (G (H a)+1) 0) aF) (X (G (H a)+1) 1)<|am D (y e) B) (X (G (H a)+1) 2)<|am x u c2) (X (G (H a)+1) 3)<|am A v c3):=((((((I.bI _ S).aL _ 0 _<|J<|J z).aL _ 1 _<|J<|J z).aL _ 0 _<|J<|bu z).aL _ 1 _<|J<|bu z).aL _ 2 _<|J<|bu z).aL _ 3 _<|J<|bu z;have cB:=DV (a':=aF) (b':=am D (y e) B) (c':=am x u c2) (d':=am A v c3) hx;generalize cP (cP (cP (cP (cP (cP S (X (G<|H a) 0) aF) (X (G<|H a) 1)<|am D (y e) B) (X (G (H a)+1) 0) aF) (X (G (H a)+1) 1)<|am D (y e) B) (X (G (H a)+1) 2)<|am x u c2) (X (G (H a)+1) 3) (am A v c3)=wf at*;have:∀n,(n=G (H a)\/n=G (H a)+1)->∃b,S.heap[n]?=M (aK b 108 (0,0)):=by
    grind
   refine⟨cB,aU.aZ bh<|λn C dv=>?_,?_,s.l (s.l aa K cY) aU<|λn C=>V n (by obtain dv|dv:=C<;>omega),?_⟩
   .grind[gh,lk]
   .refine((bg.aA K).dN aU<|λn C=>?_).pQ U;grind
   .exact(((HW.aT (T:=s.F) cY).aj g (λ_ h=>J h)).t K).aj aU ar)
  go_wp2;let⟨r1,r2,r3,r4,r5⟩:=bq _ rfl;refine ci (qO z _ _ (G (H a)+1) aF (am D (y e) B) (am x u c2) (am A v c3) _ _ z r1 ⟨_,_,_,z⟩ ⟨_,_,_,z⟩ ⟨_,_,_,z⟩ ⟨_,_,_,z⟩) z ?_;exact J ⟨D,y e,B,e,z,r2,cv,r3,r4,r5⟩
def Aq{us ts:dI}(h:us.Sublist ts):(gz us).Sublist (gz ts):=by
 induction h with
 |slnil=>grind
 |cons x _ a=>rw[uP];grind
 |cons_cons x _ a=>rw[uP,uP];grind
def ma.kE(h:ma v)(a:l.Sublist v):ma l:=⟨λt b=>h.p t<|a.subset b,h.o.kE<|Aq a,h.L.sublist<|a.map _⟩
def YX(h:jY a (bX b c (y l) k) l)(d:y l<=k)(f:n<=y l):jY a (am (if k=n then M (X b c)else M (X b<|c+n)) (y l-n)<|k-n) (l.drop n):=by
 by_cases g:k=n;have e:y l=n:=U;rw[fW g,<-e,li,xY,show k-y l=0 by omega];exact h.D c;rw[fN g];exact h.pO n f
def N3{w1:Z}{ta j8:dI}(l:R)(e:jY w1 d ta)(f:jY w1 w j8)(q:y ta+y j8<=20000000000)(r:l<=G (H w1))(T:TypeId):cR bN 130 #[bX (G<|H w1) 0 2 2] ((dw w1<|aK #[d,w] T).drew) λp i=>∃c,p=aN c/\fE i l 235 1 c (y<|ta++j8) ((ta++j8).map cH.D)/\I aC w1 i:=by
 have a:I aC w1 ((dw w1<|aK #[d,w] T).drew):=(cI _ w1).df z;have:∀j v,(#[d,w]:Array ae)[j]?=M v->bA ((dw w1<|aK #[d,w] T).drew) (X (G<|H w1)<|0+j)=M v:=by simp_all
 have h:=vN (G<|H w1) 0 2 [(d,ta),(w,j8)] ((dw w1<|aK #[d,w] T).drew) ?_ ar ?_ ?_ ar (by simp[nC];omega);(·(have m:nC [(d,ta),(w,j8)]=y (ta++j8):=by simp[nC]);rw[m,(by simp[rY]:rY [(d,ta),(w,j8)]=(ta++j8).map cH.D)]at h;go_call h as p i⟨c,rfl,n,o⟩;exact⟨c,z,fj n dW,a.t o⟩);grind
 .intro j g;match j,g with
  |0,_=>exact a.bV e.bV<|λk b=>⟨id,e.lt k b⟩
  |1,_=>exact a.bV f.bV<|λk b=>⟨id,f.lt k b⟩
 .intro j g k b;match j,g with
  |0,_=>have:=e.lt k b;simp;omega
  |1,_=>have:=f.lt k b;simp;omega
def N2{f:ae}(c b e:dI)(r:R)(s:Row a 1 d (y c) (c.map cH.D))(j:∀k,cN d=M k->k<G (H a))(t:Row a 1 w (y b) (b.map cH.D))(l:∀k,cN w=M k->k<G (H a))(u:Row a 1 f (y e) (e.map cH.D))(m:∀k,cN f=M k->k<G (H a))(B:y c+y b+y e<=20000000000)(C:r<=G (H a))(T:TypeId):cR bN 130 #[bX (G<|H a) 0 3 3] (dw a<|aK #[d,w,f] T) λA p=>∃i,A=aN i/\fE p r 235 1 i (y<|c++b++e) ((c++b++e).map cH.D)/\I aC a p:=by
 have g:I aC a (dw a<|aK #[d,w,f] T):=(cI _ a);have:∀q v,(#[d,w,f]:Array ae)[q]?=M v->bA (dw a<|aK #[d,w,f] T) (X (G<|H a)<|0+q)=M v:=by simp_all
 have h:=vN (G<|H a) 0 3 [(d,c),(w,b),(f,e)] (dw a<|aK #[d,w,f] T) ?_ ar ?_ ?_ ar (by simp[nC];omega);(·(have o:nC [(d,c),(w,b),(f,e)]=y (c++b++e):=by simp[nC]);rw[o,(by simp[rY]:rY [(d,c),(w,b),(f,e)]=(c++b++e).map cH.D)]at h;go_call h as A p⟨i,rfl,v,x⟩;exact⟨i,z,fj v dW,g.t x⟩);grind
 .intro q n;match q,n with
  |0,_=>exact g.bV s aI
  |1,_=>exact g.bV t aI
  |2,_=>exact g.bV u aI
 .intro q n k o;match q,n with
  |0,_=>have:=j k o;simp;omega
  |1,_=>have:=l k o;simp;omega
  |2,_=>have:=m k o;simp;omega
section
open Shelf
attribute [local go_sem] Oper.semAt_some
structure RB(w0:Z)(vs:iF)(B:fC)(W:Z):Prop where
 bV:∃v,fF W (G<|H w0) v 218/\fE W (G (H w0)+1) 221 1 v (y vs) vs/\(∀k,B k↔k=G (H w0)\/cN v=M k)
 aA:I aC w0 W
def RB.lt(h:RB a Q W e):∀k,W k->G (H a)<=k/\k<G (H e):=by
 intro k g;let⟨v,j,c,d⟩:=h.bV;obtain i|i:=(d k).1 g;grind
 have:=c.lt k i;grind
def RB.gR{B T:fC}(h:RB a Q B e)(b:I T e P)(g:∀k,T k->¬B k/\G (H a)<=k):RB a Q B P:=by
 let⟨v,c,d,f⟩:=h.bV;exact⟨⟨v,(b.A _ (az c) aI).trans c,b.aZ d aI,f⟩,h.aA.aj b aI⟩
def RB.jl{v b x:ae}{w:Obj}(h:RB a Q W e)(n:fF e (G<|H a) v 218)(A:∀k,W k↔k=G (H a)\/cN v=M k)(t:fE e (G (H a)+1) 221 1 v (y Q) Q)(q:fo (dw e w) P v b)(d:fE P (G (H a)+1) 221 1 b (y Q+1) (Q++[x])):∃j,RB a (Q++[x]) j (cP P (X (G<|H a) 0) b)/\I W e (cP P (X (G<|H a) 0) b)/\(∀k,j k->W k\/G (H e)<=k):=by
 have:∀k,cN v=M k->G (H a)+1<=k/\k<G (H e):=λk c=>t.lt k c;have o:∀k,cN b=M k->G (H a)+1<=k:=λk c=>(d.lt k c).1;have l:I (λk=>cN v=M k) e P:=((I.bI (λk=>cN v=M k) e).aE w).aj (I.eF (S:=λk=>cN v=M k) q.dF<|λk c=>J c)<|λk c=>J c;have g:fF P (G<|H a) v 218:=(l.A _ (az n) aI).trans n;have f:I W e (cP P (X (G<|H a) 0) b):=(l.aT (T:=W) aI).aL _ _ _ aI;refine⟨λk=>k=G (H a)\/cN b=M k,⟨⟨b,g.gu _,?_,λk=>tq⟩,?_⟩,f,?_⟩;rw[show y (Q++[x])=y Q+1 by simp];exact d.kept (eG P _ _ _) aI;exact h.aA.aj f aI;rintro k(r|r);(grind);obtain u|⟨B,u,s⟩:=q.f;(grind);rw[u]at r;cases r;simp at s;grind
def Rx(t:cH):ae:=.iface 235 t.D
def IJ(p:ae×dI):ae:=.iface 106 p.1
end
section
open Shelf
attribute [local go_sem] Oper.semAt_some
def s8(a:dI):∀j,j<=y a->(bk (a.map cH.D) j).map (λp=>Value.iface 235 p.2)=((a.take j).map Rx).reverse
 |0,_=>by simp[bk]
 |j+1,h=>by
  have b:j<y a:=h;rw[bk,bO,s8 a j U,aG b,bz,List.reverse_append];simp only[bO,gB,we,List.reverse_nil,ep,mH,iM,rH];rw[uZ,fP,bF b];rfl
def qB(a b c d:ae×dI):iF:=((a.2.map Rx).reverse)++[IJ b]++[IJ c]++[IJ d]
def LvC(w:Z)(a o:R)(v:ae):Prop:=∃x n c,v=am x n c/\bA w (X a o)=M (am x n c)
def Sp{w:Z}{lb lo:R}(p0 p1 p2 p3:ae×dI)(h:Fw w lb lo [p0,p1,p2,p3]):cR bN 160 #[ee<|M<|X lb lo] w λcl w'=>∃v',cl=aN v'/\fE w' (G<|H w) 221 1 v' (y<|qB p0 p1 p2 p3) (qB p0 p1 p2 p3)/\I aC w w':=by
 let⟨i0,bh,bo,bp,ax⟩:=cZ LV;let⟨v0,a⟩:=p0;let⟨v1,o⟩:=p1;let⟨v2,p⟩:=p2;let⟨v3,q⟩:=p3;have c0:bA w (X lb lo)=M v0:=h.u 0 ar;have c1:bA w (X lb<|lo+1)=M v1:=h.u 1 ar;have c2:bA w (X lb<|lo+2)=M v2:=h.u 2 ar;have c3:bA w (X lb<|lo+3)=M v3:=h.u 3 ar;have bl:Row w 1 v0 (y a) (a.map cH.D):=h.bV 0 ar;have bc:∀A,cN v0=M A->A<G (H w):=h.l 0 ar;obtain⟨x0,j,rfl⟩:=cG bl;obtain⟨x1,O,rfl⟩:∃aU aa,v1=am aU (y o) aa:=cG<|h.bV 1 ar;obtain⟨x2,P,rfl⟩:∃aU aa,v2=am aU (y p) aa:=cG<|h.bV 2 ar;obtain⟨x3,Q,rfl⟩:∃aU aa,v3=am aU (y q) aa:=cG<|h.bV 3 ar;have bL:y a<=20000000000:=by have:=h.f;simp[nC]at this;omega
 have bE:=h.lt;refine(ew (n:=3)).1 ?_;refine callsIn_of_wp_marks func160 z trivial ?_ z;simp only[ntmps160,gp,bK,eE,ke,Nat.reduceSub,fh,fc,gq,fH,ep,dt];gi_wp2;refine wpIn_loop_rounds 5 ?_;rw[roundsIn_succ];gi_wp2;rename_i QQ KK W;apply PT KK;(.intro aD;refine Aw.2 ?_;(go_region);all_goals exact aD);apply W;gi_wp2_with(refine⟨trivial,?_⟩;gi_at_call 229;apply(ew.2<|(λan=>MC (am x0 (y a) j) x0 (y a) j z an) _).mono;rintro cl w1⟨rfl,rfl⟩)
 have e1:G (H (dw (dw w<|aK #[aF] 218)<|aK #[am x0 (y a) j] 106).drew)=G (H w)+2:=ar;let⟨W0,u⟩:∃W0,(dw (dw w<|aK #[aF] 218)<|aK #[am x0 (y a) j] 106).drew=W0:=⟨_,rfl⟩;rw[u]at e1;have C:I aC w W0:=u▸((cI aC w).aE _).df z;have bd:fF W0 (G<|H w) aF 218:=u▸fF.aE (w:=dw w<|aK #[aF] 218) (aQ (w:=w) _ z) _;rw[u];refine tL (α:=R×ae) (arg:=O8) (m:=3) (V:=CY) (n0:=G<|H w) (gf:=268) (lb:=#[aJ<|G (H w)+1]) (l:=bk (a.map cH.D)<|y<|a.map cH.D) (S:=λA=>A=G (H w)+1) ?geval (enters_of func268 aH z) (λ_=>rfl) (Tl (G<|H w) 2 (u▸aQ (w:=dw w<|aK #[aF] 218) _ ar:fF W0 (G (H w)+1) (am x0 (y a) j) 106) (by rw[cS];exact C.bV bl (λA r=>⟨id,bc A r⟩):Row W0 1 (am x0 (y a) j) (y<|a.map cH.D) (a.map cH.D)) bc C.D dW) trivial C.D ?slt (λE bs an=>RB w (E.map<|λcc=>Value.iface 235 cc.2) bs an) (λ_ _ _ _=>False) (λA=>A=G (H w)) (⟨⟨aF,bd,ct _ _ _ _,λA=>by simp[cN]⟩,C⟩:RB w [] (λA=>A=G (H w)) W0) ?sb ?lt ?st (λ_ _ _ _ _ _ h=>h.elim) ?body ?done ?stop;rfl;grind
 grind
 exactλE bs an h A r=>h.lt A r;intro E bs an K T h F e;refine h.gR F<|λA r=>⟨(e A r).1,?_⟩;obtain aa|aa|aa:=(e A r).2;omega;exact aa.elim;omega;(case stop=>grind)
 .intro lr E aU bs an bi av aV ao B _;let⟨xi,xv⟩:=aU;let⟨x,K⟩:∃x,E.map (λcc=>Value.iface 235 cc.2)=x:=⟨_,rfl⟩;have T:y x<=20000000000:=by
   have:=ao.length_le;rw[<-K];simp only[cS,ai,bK,eE]at this|-;rw[(λa ba=>by induction ba with|zero=>rfl|succ ba ih=>simp[bk,ih]:∀(a:iF)ba,y (bk a ba)=ba)]at this;omega
  rw[K]at B;let⟨i,d⟩:∃i,y x=i:=⟨_,rfl⟩;unfold O8;simp only;gi_wp2;refine⟨I.bI _ _,λF e=>?_⟩;have k:RB w x bs F:=B.gR e<|λA r=>aI;let⟨cd,v,c,t⟩:=k.bV;rw[d]at c;have bf:bA F (X (G<|H w) 0)=M cd:=v.u;have bg:iI F (X (G<|H w) 0)=bD:=v.bS;let⟨ex,ec,D⟩:=aM c;have ad:=az v;have bb:i<=20000000000:=U;let⟨c1,HV,s,L,ap⟩:=oa k v c t e;clear k v c t e T;subst D;gi_wp2_with(first
   |(gi_at_builtin;refine gm _ z (.tmp 27) (.tmp 30) 218 z (G (H w)+1) 221 i0 ic 1 16 underlying218 bh bo bp ax z cg (.slice ex i ec) i x z (bC s (.cells #[Value.iface 235 xv] 221)) (X (G (H F)) 0) 1 1 [Value.iface 235 xv] z z (El _ _ _) (Y0 z) U U dW ?_;intro bT w3 b g;obtain⟨br,bq,rfl⟩:=aM b;have f:fF w3 (G (H w)) (.slice ex i ec) 218:=(g.dF.block _ (az (HV.aE (.cells #[Value.iface 235 xv] 221))) (λaa=>bP ((s.lt _ aa.symm).1))).trans (HV.aE _);have ab:=f.u;have ac:=f.bS;clear f;have al:=ak b;have N:=ak g;clear b g))
  let⟨B',q1,q2,q3⟩:=c1.jl (x:=Value.iface 235 xv) HV L (by rwa[d]) N (by rwa[d]);have e:=ag ap;have ax:=e.D;refine⟨trivial,B',?_,(e.aT (λA r=>J<|bu r):I (λA=>bs A\/A=lr) an F).aj q2<|λA r=>J<|J r,q2.A lr U av,λA r=>?_⟩
  .grind[ag]
  grind
 (.intro cb bs an cj B T _ hK;(have bi:(bk (a.map cH.D)<|y<|a.map cH.D).map (λcc=>Value.iface 235 cc.2)=(a.map Rx).reverse:=by rw[cS,s8 a _<|aq _,cQ]);rw[bi]at B;let⟨i,d⟩:∃i,y (a.map Rx).reverse=i:=⟨_,rfl⟩;(have:i<=20000000000:=by rw[<-d];simpa using bL);have e:(a.map Rx).reverse++[IJ (am x1 (y o) O,o)]++[IJ (am x2 (y p) P,p)]++[IJ (am x3 (y q) Q,q)]=qB (am x0 (y a) j,a) (am x1 (y o) O,o) (am x2 (y p) P,p) (am x3 (y q) Q,q):=rfl;unfold IJ at e;simp only at e;generalize(a.map Rx).reverse=x at B d e;let⟨RV,bb⟩:∃m8,qB (am x0 (y a) j,a) (am x1 (y o) O,o) (am x2 (y p) P,p) (am x3 (y q) Q,q)=m8:=⟨_,rfl⟩;rw[bb]at e;have HL:LvC w lb (lo+1) (am x1 (y o) O)/\LvC w lb (lo+2) (am x2 (y p) P)/\LvC w lb (lo+3) (am x3 (y q) Q)/\True:=⟨⟨_,_,_,z,c1⟩,⟨_,_,_,z,c2⟩,⟨_,_,_,z,c3⟩,trivial⟩;clear bi;clear u bd C;gi_wp2;(iterate 3 (rw[roundsIn_succ];let⟨⟨xa,na,ca,bn,bt⟩,HL⟩:=HL;rw[bn]at e;clear bn;have bx:=B.aA.u bt id bE;gi_wp2;rename_i QQ KK W;apply PT KK;(focus(intro aD;apply Aw.2;go_region;all_goals exact aD));apply W;clear W bx;have k:RB w x bs an.drew:=B.gR (cf aC an) cY;have ao:an.drew.heap[cb]?=M (.deferred<|M []):=hK;generalize an.drew=n9 at k ao|-;clear B hK;let⟨cd,v,c,t⟩:=k.bV;rw[d]at c;have bf:bA n9 (X (G<|H w) 0)=M cd:=v.u;have bg:iI n9 (X (G<|H w) 0)=bD:=v.bS;let⟨ex,ec,D⟩:=aM c;have ad:=az v;let⟨HV,s,L,aV,F,K⟩:=nU v c t k ao d;clear v c t k ao d;subst D;gi_wp2_with(first|(gi_at_builtin;refine gm _ z (.tmp 18) (.tmp 21) 218 z (G (H w)+1) 221 i0 ic 1 16 underlying218 bh bo bp ax z cg (.slice ex i ec) i x z (bC s<|.cells #[Value.iface 106<|.slice xa na ca] 221) (X (G<|H n9) 0) 1 1 [Value.iface 106<|.slice xa na ca] z z (El _ _ _) (Y0 z) U U dW ?_;intro bT w3 b g;obtain⟨br,bq,rfl⟩:=aM b;have f:fF w3 (G<|H w) (.slice ex i ec) 218:=(g.dF.block _ (az<|HV.aE<|.cells #[Value.iface 106<|.slice xa na ca] 221)<|λaa=>bP<|(s.lt _ aa.symm).1).trans<|HV.aE _;have ab:=f.u;have ac:=f.bS;clear f;have al:=ak b;have N:=ak g;clear b g));let⟨bs,q1,q2,q3⟩:=aV.jl (x:=Value.iface 106<|am xa na ca) HV L (ag K▸s) N<|ag K▸al;have ap:=(q2.A cb (az F) T).trans F;have T:¬bs cb:=λaa=>(q3 cb aa).elim T<|λcn=>(bP<|az F);generalize cP w3 (X (G<|H w) 0) (am br (i+1) bq)=an at q1 ap|-;have d:y (x++[Value.iface 106<|am xa na ca])=i+1:=(by rw[ai,ag K];rfl);generalize x++[Value.iface 106<|am xa na ca]=x at q1 d e;have B:=ak q1;have hK:=ak ap;clear q1 q2 q3 ap HV s L aV F K N al ad ab ac;clear bf bg;let⟨i,ba,ck⟩:∃aU,i+1=aU/\aU<=i+1:=⟨_,rfl,aq _⟩;rw[ba]at d;clear ba));rw[roundsIn_succ];let⟨cd,v,c,t⟩:=B.bV;have:bA an (X (G<|H w) 0)=M cd:=v.u;obtain⟨ch,ce,D⟩:=aM c;subst D;gi_wp2;have bm:=iC an cb<|.deferred dE;refine⟨ar,J ⟨_,_,z,run_takeDeferred hK,?_⟩⟩;refine⟨_,gH z _ _ _,?_⟩;have c:=ag<|ak c;have hB:=t;subst bb;rw[e]at c hB;refine⟨_,z,?_,B.aA.aj bm<|λA r=>bu (by subst r;omega)⟩;obtain⟨h1,⟨h2,h0⟩|⟨cm,cp,bv,h2,hb,av⟩⟩:=bm.aZ c<|λA r aa=>T<|(hB cb).2<|bu<|aa▸r;exact⟨h1,J ⟨h2,h0⟩⟩;exact⟨h1,bu ⟨cm,cp,bv,h2,U,av⟩⟩)
end
section
open Shelf
def LK:Go.Shelf.Ren:=⟨λ|25=>161|n=>n,λ|9=>9|3=>3|4=>4|37=>31|0=>0|47=>369|5=>5|n=>n,λ|n=>n⟩
def Zb:Go.Proofs.LaysPu.n25 bN LK:={mixed:=by kernel_rfl,f25:=func161.trans (cD M<|by kernel_rfl),t0:=underlying0,a0:=isAgg0,z0:=sizeOf0,v0:=zeroValue0,i0:=by kernel_rfl,t3:=underlying3,a3:=isAgg3,z3:=sizeOf3,v3:=zeroValue3,i3:=by kernel_rfl,t4:=underlying4,a4:=isAgg4,z4:=sizeOf4,v4:=zeroValue4,i4:=by kernel_rfl,t5:=underlying5,a5:=isAgg5,z5:=sizeOf5,v5:=zeroValue5,i5:=by kernel_rfl,t9:=underlying9,a9:=isAgg9,z9:=sizeOf9,v9:=zeroValue9,i9:=by kernel_rfl,t37:=underlying31,a37:=isAgg31,z37:=sizeOf31,v37:=zeroValue31,i37:=by kernel_rfl,t47:=underlying369,a47:=isAgg369,z47:=sizeOf369,v47:=zeroValue369,i47:=by kernel_rfl}
def rC(s:af)(w:Z)(d:s.size<=281474976710656):cR bN 109 #[aw s] w λe a=>e=aN (aw s)/\gD (G<|H w) w a:=by
 have h:=AnyPu.stringslite_Clone Zb s w d;have c:cR bN 161 #[aw s] w λe a=>e=aN (aw s)/\gD (G<|H w) w a:=h;clear h;go_in
 go_wp2_with fail
 apply c.mono;rintro e f⟨rfl,b⟩;have HB:=ak b;clear b;go_wp2;go_ret;exact⟨z,HB⟩
end
