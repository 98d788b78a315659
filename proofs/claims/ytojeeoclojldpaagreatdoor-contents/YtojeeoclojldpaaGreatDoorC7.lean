import Derived.LaidEql
import Derived.RowKitTokens
import Derived.Stop.Asserts
import Derived.Test.YtojeeoclojldpaaGreatDoorC2
open _root_ renaming List.length→y,Option.some→H,Array.size→z,Go.World.heap→G,Go.Value.ownBlock→bV,Go.World.cell?→aT,Go.World.setCell→bZ,Go.World.alloc→ct,Bool.false→bF,Bool.true→bW,Nat→M,Int→Z,List→cr,Go.Calls→cy,Go.Proofs.Tryz.prog→bG,Go.Value.slice→J,Go.Value.string→ai,Go.Value.bool→aL,Go.Value.pointer→fp,Go.Value.tuple→dB,Go.Value.agg→eC
namespace Go.Proofs.YtojeeoclojldpaaGreatDoor
open ChangeShapes WideShapes RowKit Proofs.Tryz
set_option maxHeartbeats 16000000
set_option linter.all false
set_option maxRecDepth 100000
variable{a f:I}{b c g l:M}{d s N:aa}{m:Z}{D:Bool}{K:iH}{V:Array aa}
section
open Go.Extern.Stop Go.Stop Go.Extern
def JZ(w:I):cy bG 15 #[.nilIface] w λe a=>e=aO (ap 0)/\Below (z<|G w) w a:=by
 go_in
 go_wp2;go_ret;exact⟨rfl,(Below.refl _ w).alloc (ah _) _⟩
def Kw(t:Addr)(w:I):(ReflectliteValue.unpack<|.iface 116<|fp<|H t).run bG w=.ok (eC #[fp<|H<|R (7) 116,aA<|z<|G w,aH 150]) (ct w<|ar #[fp<|H t] 116):=by kernel_rfl
def Tn(a:Addr)(w:I):(ReflectliteValue.methodAny (ReflectliteValue.valueError "reflectlite.Value.Type" 0) (λt _ _ _=>ReflectliteType.toType t) #[eC #[fp<|H<|R (7) 116,fp<|H a,aH 150]]).run bG w=.ok (.iface 230<|eC #[fp<|H<|R (7) 116]) w:=by kernel_rfl
def FF(h:aa)(w:I):(Go.method 545 230 (eC #[h]) "Kind").run bG w=.ok (310,h) w:=by kernel_rfl
def To(w:I):((ReflectliteType.abiMethod λt=>(λa:M=>Value.int IntKind.u8 (a:Z))<$>Rtype.kind t) #[fp<|H<|R (7) 116]).run bG w=.ok (tC 22) w:=by kernel_rfl
def Tp(w:I):((ReflectliteType.abiMethod λt=>(λa:M=>Value.int IntKind.u8 (a:Z))<$>Rtype.kind t) #[fp<|H<|R (7) 55]).run bG w=.ok (tC 2) w:=by kernel_rfl
def YR(a:Sem aa)(f:TypeId->Addr->M->M->Sem aa)(v:aa):ReflectliteValue.method a f #[v]=(do match<-ReflectliteValue.parts v with|none=>a|some (t,c,b)=>f t c b<|b%32):=rfl
def Gx(a:Addr)(w:I):(ReflectliteValue.parts<|eC #[fp<|H<|R (7) 116,fp<|H a,aH 150]).run bG w=.ok (H (116,a,150)) w:=by kernel_rfl
def QC(b p:Addr)(W:I)(a:aT W b=H (fp<|H p)):(ReflectliteValue.method (ReflectliteValue.valueError "reflectlite.Value.IsNil" 0) ReflectliteValue.isNil #[eC #[fp<|H<|R (7) 116,fp<|H b,aH 150]]).run bG W=.ok (aL bF) W:=by
 rw[YR];simp only[jX,Gx,Result.andThen];simp[ReflectliteValue.isNil,loadVar,isAgg,underlying,underlying116,a,Result.andThen]
def FG(h:aa)(w:I):(Go.method 545 230 (eC #[h]) "Elem").run bG w=.ok (340,eC #[h]) w:=by kernel_rfl
def yC(h:aa)(w:I):(Go.method 545 230 (eC #[h]) "Implements").run bG w=.ok (341,eC #[h]) w:=by kernel_rfl
def wJ(h:aa)(w:I):(Go.method 545 230 (eC #[h]) "AssignableTo").run bG w=.ok (338,eC #[h]) w:=by kernel_rfl
def Tq(w:I):(ReflectliteType.method ReflectliteType.elem #[eC #[fp<|H<|R (7) 116]]).run bG w=.ok (.iface 230<|eC #[fp<|H<|R (7) 55]) w:=by kernel_rfl
def DM(w:I):(ReflectliteType.relation "Implements" ReflectliteType.implements_ #[eC #[fp<|H<|R (7) 55],.iface 230<|eC #[fp<|H<|R (7) 50]]).run bG w=.ok (aL bW) w:=by kernel_rfl
def DL(v:aa)(w:I):(ReflectliteType.typeOf #[.iface 55 v]).run bG w=.ok (.iface 230<|eC #[fp<|H<|R (7) 55]) w:=by kernel_rfl
def DO(w:I):(ReflectliteType.relation "AssignableTo" ReflectliteType.assignableTo #[eC #[fp<|H<|R (7) 55],.iface 230<|eC #[fp<|H<|R (7) 55]]).run bG w=.ok (aL bW) w:=by kernel_rfl
def Ky(n:Z)(w:I):(ReflectliteValue.unpack<|.iface 55<|ap n).run bG w=.ok (eC #[fp<|H<|R (7) 55,aA<|z<|G w,aH 130]) (ct w<|ar #[ap n] 55):=by kernel_rfl
def Nl(w:I):(Rtype.elem? 116).run bG w=.ok (H 55) w:=by kernel_rfl
def Xc(p:Addr)(w:I):(ReflectliteValue.mk 55 p ReflectliteValue.flagAddr).run bG w=.ok (eC #[fp<|H<|R (7) 55,fp<|H p,aH 386]) w:=by kernel_rfl
def QD(b p:Addr)(W:I)(a:aT W b=H (fp<|H p)):(ReflectliteValue.method (ReflectliteValue.valueError "reflectlite.Value.Elem" 0) ReflectliteValue.elem #[eC #[fp<|H<|R (7) 116,fp<|H b,aH 150]]).run bG W=.ok (eC #[fp<|H<|R (7) 55,fp<|H p,aH 386]) W:=by
 rw[YR];simp only[jX,Gx,Result.andThen];simp[ReflectliteValue.elem,loadVar,isAgg,underlying,underlying116,a,Result.andThen,Nl,Xc]
def YT(v x:aa):ReflectliteValue.set #[v,x]=(do
 let(H (dst,a,fl),H (src,b,_)):=(<-ReflectliteValue.parts v,<-ReflectliteValue.parts x)
  |unsupported (.noEntry "extern/(internal/reflectlite.Value).Set.zeroValue")
 if fl/ReflectliteValue.flagAddr%2==0 then unsupported (.noEntry "extern/(internal/reflectlite.Value).Set.unaddressable")
 let c<-loadVar src b
 if<-Rtype.directlyAssignable dst src then storeVar dst a c
 else if<-Rtype.implements dst src then
  if(<-Rtype.kind src)==20 then
   match c with
   | .nilIface=>unsupported<|.noEntry "extern/reflectlite: a nil value of one interface type handed on as a value of another"
   |_=>storeVar dst a c
  else storeVar dst a (.iface src c)
 else panicString ("reflectlite.Set: value of type " ++(<-Rtype.spelt src)++ " is not assignable to type " ++(<-Rtype.spelt dst))
 pure (dB #[])):=rfl
def Nk(a:Addr)(w:I):(ReflectliteValue.parts<|eC #[fp<|H<|R (7) 55,fp<|H a,aH 386]).run bG w=.ok (H (55,a,386)) w:=by kernel_rfl
def QB(a:Addr)(w:I):(ReflectliteValue.parts<|eC #[fp<|H<|R (7) 55,fp<|H a,aH 130]).run bG w=.ok (H (55,a,130)) w:=by kernel_rfl
def Nn(w:I):(Rtype.directlyAssignable 55 55).run bG w=.ok bW w:=by kernel_rfl
def VH(a e:Addr)(n:Z)(FN:aa)(W:I)(b:aT W e=H (ap n))(d:aT W a=H FN)(c:W.frozen? a=bF):(ReflectliteValue.set #[eC #[fp<|H<|R (7) 55,fp<|H a,aH 386],eC #[fp<|H<|R (7) 55,fp<|H e,aH 130]]).run bG W=.ok (dB #[]) (bZ W a<|ap n):=by
 rw[YT];simp only[jX,Nk,QB,Result.andThen];simp[ReflectliteValue.flagAddr,loadVar,isAgg,underlying,underlying55,b,Result.andThen,Nn,storeVar,Value.cells,storeCells,Addr.add];rw[run_store bG W a _ _<|by rfl];simp[d,c]
def pD(w:I):Prop:=aT w (R 0 0)=H (.iface 230<|eC #[fp<|H<|R (7) 50])
def XD(n:Z)(t:Addr)(FN:aa)(e:pD a)(b:aT a t=H FN)(d:a.frozen? t=bF):cy bG 47 #[.iface 55<|ap n,.iface 116<|fp<|H t] a λk C=>k=aO (aL bW)/\C=bZ (ct (ct (ct (ct a<|ar #[fp<|H t] 116)<|ar #[fp<|H<|R (7) 116,aA<|z<|G a,aH 150] 149)<|ar #[fp<|H<|R (7) 116,aA<|z<|G a,aH 150] 149)<|ar #[ap n] 55) t (ap n):=by
 unfold pD at e;have K:=@eT bG 75 _ (λa=>ReflectliteValue.unpack<|a.getD 0<|dB #[]) func75 (by kernel_rfl) (by kernel_rfl) (by kernel_rfl) (by kernel_rfl);have L:=@eT bG 76 _ (ReflectliteValue.methodAny (ReflectliteValue.valueError "reflectlite.Value.Type" 0)<|λt _ _ _=>ReflectliteType.toType t) func76 (by kernel_rfl) (by kernel_rfl) (by kernel_rfl) (by kernel_rfl);have N:=@eT bG 77 _ (ReflectliteValue.method (ReflectliteValue.valueError "reflectlite.Value.IsNil" 0) ReflectliteValue.isNil) func77 (by kernel_rfl) (by kernel_rfl) (by kernel_rfl) (by kernel_rfl);have q:=@eT bG 310 _ (ReflectliteType.abiMethod λt=>do pure (tC<|<-Rtype.kind t)) func310 (by kernel_rfl) (by kernel_rfl) (by kernel_rfl) (by kernel_rfl);have s:=@eT bG 340 _ (ReflectliteType.method ReflectliteType.elem) func340 (by kernel_rfl) (by kernel_rfl) (by kernel_rfl) (by kernel_rfl);have u:=@eT bG 341 _ (ReflectliteType.relation "Implements" ReflectliteType.implements_) func341 (by kernel_rfl) (by kernel_rfl) (by kernel_rfl) (by kernel_rfl);have l:=@eT bG 124 _ ReflectliteType.typeOf func124 (by kernel_rfl) (by kernel_rfl) (by kernel_rfl) (by kernel_rfl);have r:=@eT bG 338 _ (ReflectliteType.relation "AssignableTo" ReflectliteType.assignableTo) func338 (by kernel_rfl) (by kernel_rfl) (by kernel_rfl) (by kernel_rfl);have m:=@eT bG 125 _ (ReflectliteValue.method (ReflectliteValue.valueError "reflectlite.Value.Elem" 0) ReflectliteValue.elem) func125 (by kernel_rfl) (by kernel_rfl) (by kernel_rfl) (by kernel_rfl);have o:=@eT bG 126 _ ReflectliteValue.set func126 (by kernel_rfl) (by kernel_rfl) (by kernel_rfl) (by kernel_rfl);have V:=DL;have O:=wJ;have i:=DO;have B:=Ky;have E:=Kw;have F:=Tn;have S:=FF;have P:=FG;have Q:=yC;have A:=To;have x:=Tp;have j:=Tq;have w:=DM;have T:=QC (R (z<|G a) 0) t (ct (ct a<|ar #[fp<|H t] 116)<|ar #[fp<|H<|R (7) 116,aA<|z<|G a,aH 150] 149) (by simp);have f:0<z (G a):=cY _ _ e;have v:aT (ct (ct a<|ar #[fp<|H t] 116)<|ar #[fp<|H<|R (7) 116,aA<|z<|G a,aH 150] 149) (R 0 0)=H (.iface 230<|eC #[fp<|H<|R (7) 50]):=by rw[eZ _ _ (R 0 0) (by first|(simp;done)|(simp;omega)),eZ _ _ (R 0 0) f];exact e
 have c:t.block<z (G a):=cY _ _ b;have D:=QD (R (z<|G a) 0) t (ct (ct (ct a<|ar #[fp<|H t] 116)<|ar #[fp<|H<|R (7) 116,aA<|z<|G a,aH 150] 149)<|ar #[fp<|H<|R (7) 116,aA<|z<|G a,aH 150] 149) (by rw[eZ _ _ (R (z<|G a) 0) (by simp;omega)];simp);have g:=VH t (R (z (G a)+1+1+1) 0) n FN (ct (ct (ct (ct a<|ar #[fp<|H t] 116)<|ar #[fp<|H<|R (7) 116,aA<|z<|G a,aH 150] 149)<|ar #[fp<|H<|R (7) 116,aA<|z<|G a,aH 150] 149)<|ar #[ap n] 55) (by rw[World.cell?_alloc_at _ _ _ _<|by simp];rfl) (by rw[eZ _ _ t (by simp;omega),eZ _ _ t (by simp;omega),eZ _ _ t (by simp;omega),eZ _ _ t c];exact b) (by rw[lW _ _ t (by simp;omega),lW _ _ t (by simp;omega),lW _ _ t (by simp;omega),lW _ _ t<|Nat.ne_of_lt c];exact d);go_in
 go_wp2;refine ld 1 ?_;rw[gX];go_wp2;go_ret;exact⟨rfl,rfl⟩
end
def pD.alloc{w:I}(h:pD w)(o:Obj):pD (ct w o):=by
 unfold pD at*;rw[eZ _ _ _<|cY _ _ h];exact h
def MP(n:Z)(k:pD a):cy bG 15 #[.iface 55<|ap n] a λm l=>m=aO (ap n)/\Below (z<|G a) a l:=by
 have e:aT (ct a<|ar #[ap 0] 55) (R (z<|G a) 0)=H (ap 0):=by simp
 have d:(ct a<|ar #[ap 0] 55).frozen? (R (z<|G a) 0)=bF:=by simp
 have i:=XD n (R (z<|G a) 0) (ap 0) (k.alloc _) e d;clear e d;go_in
 go_wp2_with(go_at_call 47;refine i.mono ?_;rintro m f⟨rfl,b⟩;have c:Below (z<|G a) a f:=(by rw[b];exact((((((Below.refl _ a).alloc (ah _) _).alloc (by simp) _).alloc (by simp;omega) _).alloc (by simp;omega) _).alloc (by simp;omega) _).setCell (p:=(R (z<|G a) 0)) (ah _) _);have j:aT f (R (z<|G a) 0)=H (ap n):=(by rw[b];exact World.cell?_setCell_same' _ _ _ (by rw[eZ _ _ _ (by simp;omega),eZ _ _ _ (by simp;omega),eZ _ _ _ (by simp;omega),eZ _ _ _<|by simp];simp));have g:=U c;clear b c)
 go_ret;exact⟨rfl,g⟩
section
open Go.Extern.Stop Go.Stop Go.Extern
def Pv(a:TypeId)(v:aa)(w:I):(binOp .eql 50 (.iface a v) .nilIface).run bG w=.ok (aL bF) w:=by
 have h:∀d:M,(Op.equalIn (d+1) 50 (.iface a v) .nilIface).run bG w=.ok bF w:=λd=>by simp[Op.equalIn,eA underlying50]
 simp only[binOp];simp[Op.equal,Op.maxDepth,h 9999]
def UH:(prog.info? 55).map (·.comparable)=H bW:=by kernel_rfl
def Ui(n:Z)(w:I):cy bG 97 #[.nilIface,.iface 55<|ap n] w λe a=>e=aO (aL bF)/\a=w:=by
 have b:∀w,(binOp .eql 50 .nilIface<|.iface 55<|ap n).run bG w=.ok (aL bF) w:=λw=>run_eql_iface_nil_left w _ _ underlying50;go_in
 go_wp2;go_ret;exact⟨rfl,rfl⟩
def yF(h:aa)(w:I):(Go.method 545 230 (eC #[h]) "Comparable").run bG w=.ok (339,eC #[h]) w:=by kernel_rfl
def EG(w:I):(ReflectliteType.method (λt=>do Rtype.noPackHeld "Comparable" t;(λa:TypeInfo=>aL a.comparable)<$>typeInfo t) #[eC #[fp<|H<|R (7) 55]]).run bG w=.ok (aL bW) w:=by kernel_rfl
def YA(v:aa)(a:TypeId)(w:I):(Instr.typeAssert (.iface 219 v) a 337 bW).run bG w=.ok (dB #[.nilIface,aL bF]) w:=run_typeAssert_lacksB underlying337 (by kernel_rfl) (by kernel_rfl) v a w
def Vu(v:aa)(a:TypeId)(w:I):(Instr.typeAssert (.iface 219 v) a 238 bW).run bG w=.ok (dB #[.iface 219 v,aL bW]) w:=run_typeAssert_hasB underlying238 (by kernel_rfl) v a w
def IL(v:aa)(w:I):(Go.method 545 219 v "Unwrap").run bG w=.ok (336,v) w:=by kernel_rfl
def MK(a:M)(n:Z)(w:I)(h:aT w (R a 1)=H (ap n)):cy bG 336 #[aA a] w λe b=>e=aO (.iface 55<|ap n)/\b=w:=by
 go_in
 go_wp2;go_ret;exact⟨rfl,rfl⟩
def Sb(n:Z)(w:I):(binOp .eql 50 (.iface 55<|ap n)<|.iface 55<|ap n).run bG w=.ok (aL bW) w:=by
 obtain⟨i,b,a⟩:=pK.1 UH;have h:∀d:M,(Op.equalIn (d+2) 50 (.iface 55<|ap n)<|.iface 55<|ap n).run bG w=.ok bW w:=λd=>by simp[Op.equalIn,eA underlying50,eA underlying55,typeInfo,b,a]
 simp only[binOp];simp[Op.equal,Op.maxDepth,h 9998]
def Rz(a:M)(n:Z)(w:I)(h:aT w (R a 1)=H (ap n)):cy bG 155 #[.iface 219<|aA a,.iface 55<|ap n,aL bW] w λe b=>e=aO (aL bW)/\b=w:=by
 have g:∀w,(binOp .eql 50 (.iface 219<|aA a)<|.iface 55<|ap n).run bG w=.ok (aL bF) w:=λw=>run_eql_iface_types _ _ _ _ underlying50 (by decide) w;have i:=Sb n;have j:=Pv;have d:=YA;have f:=Vu;have m1:=IL;have c:=MK a n w h;go_in
 go_wp2;refine ld 2 ?_;rw[gX];go_wp2_with fail
 apply c.mono;rintro e b⟨rfl,rfl⟩;go_wp2;rw[gX];go_wp2;go_ret;exact⟨rfl,rfl⟩
def Pp(a:M)(n:Z)(w:I)(h:aT w (R a 1)=H (ap n)):cy bG 97 #[.iface 219<|aA a,.iface 55<|ap n] w λf b=>f=aO (aL bW)/\b=w:=by
 have i:=Pv;have c:=@eT bG 124 _ ReflectliteType.typeOf func124 (by kernel_rfl) (by kernel_rfl) (by kernel_rfl) (by kernel_rfl);have d:=@eT bG 339 _ (ReflectliteType.method (λt=>do Rtype.noPackHeld "Comparable" t;pure (aL (<-typeInfo t).comparable))) func339 (by kernel_rfl) (by kernel_rfl) (by kernel_rfl) (by kernel_rfl);have k:=DL;have j:=yF;have g:=EG;have e:=Rz a n w h;go_in
 go_wp2_with fail
 apply e.mono;rintro f b⟨rfl,rfl⟩;go_wp2;go_ret;exact⟨rfl,rfl⟩
end
section
variable{P:Program}{a:Array Oper}{Q:Exit->Act->I->Prop}{md:Region.Mode}
theorem It{n:M}{d:String}{b:Array aa}{w:I}{c:aa->I->Prop}(h:Rows P d b w c):RowsIn Fence.wide n P d b w c:=λg e _=>let⟨v,f,r,s⟩:=h g e;⟨v,f,r,stepsIn_wide.2 s⟩
theorem Oper.JQ{o:Oper}{b:Act}{w:I}{K:Act->I->Prop}(n:M)(d:∀c,o.op≠ .defer c)(h:o.wp P b w K Q):o.wpIn Fence.wide n P b w K Q:=by
 unfold Oper.wpIn;refine⟨λf _=>trivial,?_⟩;rw[Oper.semAt_plain Fence.wide _ _ d];unfold Oper.wp at h;generalize(execOp b.eval o).run P w=r at*;cases r with
 |ok x e=>
  cases x<;>simp only[Oper.upon,Oper.uponIn]at h|-<;>first
   |exact h
   |exact⟨(λc=>(by cases c)),cX.2 h⟩
   |exact⟨(λc=>(by cases c)),It h⟩
   |exact h.elim
 |halt x e=>cases x<;>simp only[Oper.upon,Oper.uponIn]at h|-<;>exact h
theorem BT{n:M}(g:∀(i:M)(o:Oper)j,a[i]?=H o->o.op≠ .defer j)(f:¬LetsOut Q):∀(b:M)(c:Array Bool)(m:Act)(w:I),wpAny P md a Q b c m w->wpAnyIn Fence.wide n P md a Q b c m w
 |0,_,_,_,h=>h
 |b+1,_,_,_,h=>⟨h.1,λi k=>by
  have d:=uA (λe l j=>BT (n:=n) g f b _ e l j)<|h.2 i k;unfold wpOp at d;unfold wpOpIn;cases ho:a[i]? with
  |none=>simpa[ho]using d
  |some o=>
   simp only[ho]at d|-;split
   .rename_i e;simp only[e,je]at d;rcases d with d|d
    .exact Oper.JQ n (λj=>g i o j ho) d
    .exact absurd d.2 f
   .rename_i e;simp only[e]at d;exact⟨λ_ _=>trivial,d⟩⟩
theorem AO(S:I->Prop)(m:M){n id:M}{b:Act}{w:I}(e:P.follows .mixedOrders=bW)(d:CW a=bW)(c:∀b w,¬Q .outgrown b w)(h:kS P .any a Q S m a.size (Array.replicate a.size bF) b w.drew):(Code.region id a bW).wpIn Fence.wide n P Q b w:=wpIn_region_any e<|BT (vP d) (λ⟨b,w,h⟩=>c b w h) _ _ _ _<|ot _ _ _ _ h
end
structure oP where
 live:Bool
 v:aa
 l:iH
def FB:cr oP->iU
 |[]=>[]
 |x::r=>.bool x.live::x.v::FB r
def MY(a:cr oP):y (FB a)=y a*2:=by
 induction a with
 |nil=>rfl
 |cons x r b=>simp only[FB,ay,b];omega
def zQ:∀(a:cr oP)(j:M)(h:j<y a),(FB a)[j*2]?=H (aL a[j].live)/\(FB a)[j*2+1]?=H a[j].v
 |[],j,h=>absurd h<|gG _
 |x::r,0,_=>⟨rfl,rfl⟩
 |x::r,j+1,h=>by
  have b:=zQ r j (by simpa using h);have e:(j+1)*2=j*2+1+1:=by omega
  rw[e];simp only[FB,oR,cD];exact b
structure Mw(w:I)(sv:aa)(ss:cr oP):Prop where
 row:Row w 2 sv (y ss) (FB ss)
 each:∀x∈ss,x.live=bW->jQ w x.v x.l/\∀g,bV x.v=H g->g<z (G w)
 shape:∀x∈ss,∃p n c,x.v=J p n c
 small:y ss<=1000000000
def XH(u:aa):Prop:=(∃b,u=aL b)\/∃x n c,u=J x n c
def zD(w:I)(v:aa):Prop:=∀k a t b,bV v=H k->w.heap[k]?=H (ar a t b)->∀u∈a.toList,XH u
def zD.aw{S:fJ}{w w':I}(l:zD w d)(j:Y S w w')(e:∀k,bV d=H k->¬S k)(h:∀k,bV d=H k->k<z (G w)):zD w' d:=λk a t c b g=>l k a t c b<|(j.block k (h k b)<|e k b).symm.trans g
def zD.set{h i:M}{t:TypeId}{k:M×M}(n:zD a d)(f:bV d=H h)(c:a.heap[h]?=H (ar V t k))(m:XH s):zD (bZ a (R h i) s) d:=by
 intro p j o l e b x g;rw[f]at e;cases e;rw[aR c]at b;cases b;rw[nn]at g;rcases jF g with q|q;exact n h _ _ _ f c x q;rw[q];exact m
def JC(a:cr oP)(n:Z):Option oP:=if n<1 then none else match a[(n-1).toNat]? with
 |some x=>if x.live then H x else none
 |none=>none
def FX(a:cr oP)(n:Z):aa:=match JC a n with
 |some x=>.tuple #[x.v,.int .i64 0]
 |none=>.tuple #[aK,.int .i64 5]
def yh(Q:Option M)(c:cr oP)(u:Z)(h:mj a b Q K D d)(e:Mw a d c):cy bG 51 #[aA b,ap u] a λX V=>X=aO (if D then .tuple #[aK,ap 6]else FX c u)/\V=a:=by
 obtain⟨⟨ad,t,N,_⟩,_,_⟩:=h;have A:=cellAt t 1 rfl;have B:=cellAt t 2 rfl;have O:=e.small;clear t N;cases D with
 |true=>
  clear e;go_in
  go_wp2;go_ret2
  exact⟨rfl,rfl⟩
 |false=>
  by_cases n:u<1
  .have k:=U (show FX c u=dB #[aK,ap 5]by unfold FX JC;rw[dw n]);clear e;go_in
   go_wp2;go_ret2
   exact⟨k▸rfl,rfl⟩
  .obtain⟨j,rfl⟩:∃j:M,u=(j:Z)+1:=⟨(u-1).toNat,by omega⟩;have l:((j:Z)+1-1).toNat=j:=by omega
   by_cases o:j<y c
   .obtain⟨q,r⟩:=zQ c j o;obtain⟨ac,T,S,p⟩:=e.shape c[j]<|aq o;rcases e.row.2 with⟨_,v⟩|⟨W,f,m,rfl,L,g⟩
    .omega
    have w:=g _ _ q;have P:=g _ _ r;rw[p,<-aV]at P;have s:¬((y c:Z)<(j:Z)+1):=by omega
    have C:IntKind.i64.wrap ((j:Z)+1-1)=j:=by rw[bQ];omega
    have E:(j:Z)+1-1=j:=by omega
    have F:(j:Z)<(y c:Z):=by omega
    have x:¬((j:Z)+1<1):=n;cases hlv:c[j].live with
    |true=>
     have k:=U (show FX c ((j:Z)+1)=dB #[J ac T S,ap 0]by unfold FX JC;rw[cW n,l,aG o];simp[hlv,p]);rw[hlv]at w;clear e g q r p hlv l;go_in
     go_wp2;go_ret2
     exact⟨k▸rfl,rfl⟩
    |false=>
     have k:=U (show FX c ((j:Z)+1)=dB #[aK,ap 5]by unfold FX JC;rw[cW n,l,aG o];simp[hlv]);rw[hlv]at w;clear e g q r p hlv l;go_in
     go_wp2;go_ret2
     exact⟨k▸rfl,rfl⟩
   .have k:=U (show FX c ((j:Z)+1)=dB #[aK,ap 5]by unfold FX JC;rw[cW n,l,dl<|by omega]);have s:(y c:Z)<(j:Z)+1:=by omega
    rcases e.row.shape with rfl|⟨W,f,m,rfl⟩
    .have q:y c=0:=by
      rcases e.row.2 with⟨_,v⟩|⟨W,f,m,p,_⟩
      .exact v
      .cases p
     have g:(0:Z)<(j:Z)+1:=by omega
     clear e l;go_in
     go_wp2;go_ret2
     exact⟨k▸rfl,rfl⟩
    .clear e l;go_in
     go_wp2;go_ret2
     exact⟨k▸rfl,rfl⟩
def JB{a:cr oP}{x:oP}(h:JC a m=H x):x∈a/\x.live=bW:=by
 unfold JC at h;split at h;cases h;split at h;rename_i d c;split at h;rename_i b;cases h;exact⟨gp c,b⟩;cases h;cases h
def xI(a:cr oP)(n:Z)(k:ab):ab×Bool×Z:=match JC a n with
 |some x=>sf x.l k
 |none=>(⟨#[]⟩,bF,5)
def IA(r:Option M)(e:cr oP)(n:Z)(k:ab)(h:mj a b r K D d)(f:Mw a d e)(t:∀x∈e,y x.l<=1000000000000)(l:k.size<=140737488351232):cy bG 36 #[aA b,ap n,ai k] a λm u=>
 m=aO (if D then .tuple #[ai ⟨#[]⟩,aL bF,ap 6]else .tuple #[ai (xI e n k).1,aL (xI e n k).2.1,ap (xI e n k).2.2])/\u=a:=by
 have c:=yh r e n h f
 clear h
 cases D with
 |true=>
  simp only[je]at c|-;clear f;go_in
  go_wp2_with fail
  apply c.mono;rintro m s⟨rfl,rfl⟩;go_wp2;go_ret3
  exact⟨rfl,rfl⟩
 |false=>
  simp only[im,kg]at c|-;cases hx:JC e n with
  |none=>
   have j:=U (show xI e n k=(⟨#[]⟩,bF,5)by unfold xI;rw[hx]);have g:FX e n=dB #[aK,ap 5]:=by unfold FX;rw[hx]
   rw[g]at c;clear f g hx;go_in
   go_wp2_with fail
   apply c.mono;rintro m s⟨rfl,rfl⟩;go_wp2;go_ret3
   exact⟨by rw[ae j];rfl,rfl⟩
  |some x=>
   obtain⟨i,p⟩:=JB hx;have j:=U (show xI e n k=sf x.l k by unfold xI;rw[hx]);have g:FX e n=dB #[x.v,ap 0]:=by unfold FX;rw[hx]
   rw[g]at c;have o:=Pu k (f.each x i p).1 (t x i) l;obtain⟨B,w,v,q⟩:=f.shape x i;rw[q]at c o;clear f g hx i p q;go_in
   go_wp2_with fail
   apply c.mono;rintro m s⟨rfl,rfl⟩;go_wp2_with fail
   apply o.mono;rintro m A⟨rfl,rfl⟩;go_wp2;go_ret3
   exact⟨by rw[ae j];rfl,rfl⟩
def FH(t:Option M)(f:cr oP)(p:Z)(o m:ab)(c:Z)(h:mj a b t K D d)(g:Mw a d f)(A:∀x∈f,y x.l<=1000000000000):cy bG 38 #[aA b,ap p,ai o,ai m,ap c] a λq u=>
 ∃e,q=.returned (.tuple #[e,.int .i64<|if D then 6 else if(JC f p).isSome then 0 else 5])/\pC u (z<|G a) e (if D then []else match JC f p with|some x=>mO x.l o m c|none=>[])/\Below (z<|G a) a u:=by
 have e:=yh t f p h g
 clear h
 cases D with
 |true=>
  simp only[je]at e|-;clear g;go_in
  go_wp2_with fail
  apply e.mono;rintro q v⟨rfl,rfl⟩;go_wp2;go_ret2
  exact⟨_,rfl,bK _ _ _ _,Below.refl _ _⟩
 |false=>
  simp only[im,kg]at e|-;cases hx:JC f p with
  |none=>
   have l:FX f p=dB #[aK,ap 5]:=by unfold FX;rw[hx]
   rw[l]at e;clear g l hx;simp only[Option.isSome_none,im,kg];go_in
   go_wp2_with fail
   apply e.mono;rintro q v⟨rfl,rfl⟩;go_wp2;go_ret2
   exact⟨_,rfl,bK _ _ _ _,Below.refl _ _⟩
  |some x=>
   obtain⟨k,n⟩:=JB hx;have l:FX f p=dB #[x.v,ap 0]:=by unfold FX;rw[hx]
   rw[l]at e;have r:=CD o m c (g.each x k n).1 (g.each x k n).2<|A x k;obtain⟨O,C,B,s⟩:=g.shape x k;rw[s]at e r;clear g l hx k n s;simp only[Option.isSome_some,je];go_in
   go_wp2_with fail
   apply e.mono;rintro q v⟨rfl,rfl⟩;go_wp2_with fail
   apply r.mono;rintro q N⟨L,rfl,i,j⟩;obtain⟨F,E,rfl⟩:=aC i;have w:=U<|And.intro i j;clear i j;go_wp2;go_ret2
   exact⟨_,rfl,w⟩
def OZ:∀(a:cr oP)(j:M)(x:oP),j<y a->FB (a.set j x)=((FB a).set (j*2)<|aL x.live).set (j*2+1) x.v
 |[],j,x,h=>absurd h<|gG _
 |yqq::r,0,x,_=>rfl
 |yqq::r,j+1,x,h=>by
  have b:=OZ r j x (by simpa using h);have e:(j+1)*2=j*2+1+1:=by omega
  rw[e];simp only[FB,fU,b]
def AE:oP:=⟨bF,aK,[]⟩
def TD{d:cr oP}(x:oP)(q:a.ownsRow b 118 2 (bD c 0 (y d) g) (y d) (FB d))(p:l<y d):(bZ (bZ a (R c<|l*2)<|aL x.live) (R c<|l*2+1) x.v).ownsRow b 118 2 (bD c 0 (y d) g) (y<|d.set l x) (FB<|d.set l x):=by
 refine⟨MY _,.inr ?_⟩;rcases q.2 with⟨f,t⟩|⟨s,n,r,f,j,o,e,k,h,m⟩;cases f;cases f;refine⟨c,g,_,by rw[eK],j,aR<|aR o,by rw[eK];exact e,k,by simpa using h,?_⟩;simp only[nn,List.take_set,eK,m];exact(OZ d l x p).symm
def yN(k:Option M)(f:cr oP)(n:Z)(h:mj a b k K D d)(g:Mw a d f)(j:D=bW\/JC f n=none):cy bG 20 #[aA b,ap n] a λl m=>l=aO (ap<|if D then 6 else 5)/\m=a:=by
 have c:=yh k f n h g;clear h g;cases D with
 |true=>
  simp only[je]at c|-;go_in
  go_wp2_with fail
  apply c.mono;rintro l o⟨rfl,rfl⟩;go_wp2;go_ret;exact⟨rfl,rfl⟩
 |false=>
  have e:JC f n=none:=j.elim (λq=>by cases q) id;have i:FX f n=dB #[aK,ap 5]:=by unfold FX;rw[e]
  simp only[im,kg]at c|-;rw[i]at c;clear j e i;go_in
  go_wp2_with fail
  apply c.mono;rintro l o⟨rfl,rfl⟩;go_wp2;go_ret;exact⟨rfl,rfl⟩
def DS(F:Option M)(e:cr oP)(j:M)(al:oP)(h:mj a b F K bF d)(l:Mw a d e)(p:JC e ((j:Z)+1)=H al)(A:j<y e)(o:a.ownsRow c 118 2 d (y e) (FB e))(B:zD a d):cy bG 20 #[aA b,ap<|(j:Z)+1] a λan t=>an=aO (ap 0)/\t.ownsRow c 118 2 d (y<|e.set j AE) (FB<|e.set j AE)/\a.grownBy t (bV d)/\zD t d:=by
 have f:=yh F e ((j:Z)+1) h l;have E:FX e ((j:Z)+1)=dB #[al.v,ap 0]:=by unfold FX;rw[p]
 simp only[im,kg]at f;obtain⟨au,pn,pc,D⟩:=l.shape al (JB p).1;rw[E,D]at f;obtain⟨⟨av,x,_,_⟩,_,_⟩:=h;have P:=cellAt x 1 rfl;have ac:=l.small;rcases o.2 with⟨_,h0⟩|⟨O,N,ad,rfl,Q,m,W,X,n,r⟩;omega;obtain⟨v,w⟩:=zQ e j A;have k:∀i,a.frozen? (R O i)=bF:=λi=>dK m;have f0:=k<|j*2;have f1:=k<|j*2+1;rcases l.row.2 with⟨q,_⟩|⟨ao,s,u,q,C,g⟩;cases q;cases q;have k0:=g _ _ v;have k1:=g _ _ w;rw[cQ]at k0 k1;have L:=U<|And.intro (TD AE o A) (And.intro (xH (cV a O (j*2)<|aL AE.live)<|cV _ O (j*2+1) AE.v) ((B.set (i:=j*2) rfl m<|.inl ⟨AE.live,rfl⟩).set (i:=j*2+1) rfl (aR m)<|.inr ⟨none,0,0,rfl⟩));have S:IntKind.i64.wrap ((j:Z)+1-1)=j:=by rw[bQ];omega
 have T:(j:Z)+1-1=j:=by omega
 have V:(j:Z)<(y e:Z):=by omega
 clear l p E D x o m n r g v w k B;go_in
 go_wp2_with fail
 apply f.mono;rintro an w1⟨rfl,rfl⟩;clear f;go_wp2;go_ret;exact⟨rfl,L⟩
def mj.set(j:a.heap[b]?=H (ar #[d,N,aL D] 46 (0,0)))(h:Below (z<|G a) a f)(l:jQ f s K)(m:∀k,bV s=H k->k<z (G f))(c:bV s≠H b):mj (bZ f (R b 0) s) b (bV s) K D N/\a.grownBy (bZ f (R b 0) s) (H b):=by
 have e:=cV f b 0 s;have g:f.heap[b]?=H (ar #[d,N,aL D] 46 (0,0)):=by rw[h.block b<|ak j];exact j
 exact⟨⟨⟨s,by rw[aR g];rfl,Row.grown l e<|.inl c,rfl⟩,c,λk b=>ag (m k b) e.size⟩,xH (Mm h _) e⟩
def rY(r:Option M){c:uz}(h:mj a b r K D s)(V:xV a d c)(m:∀k,bV d=H k->k<z (G a))(hr:y K+y c<=1000000000000):cy bG 14 #[aA b,d] a λt w'=>
 t=aO (ap<|if D then 6 else fY c)/\(∃e,mj w' b e (if D=bF/\fY c=0 then SE K c else K) D s/\(e=r\/∀k,e=H k->z (G a)<=k))/\a.grownBy w' (H b):=by
 have S:=U h
 obtain⟨⟨au,l,W,v⟩,p,o⟩:=h
 have C:=cellAt l 0 rfl
 have al:=cellAt l 2 rfl
 have E:=dK (i:=0) l
 have q:b<z (G a):=ak l
 obtain⟨HH,Q,HL,w,x,A,B⟩:=ww l W (show∀k,bV au=H k->k<z (G a)fromλk c=>o k<|v▸c) V m (show bV au≠H b from v▸p) v
 clear l W v o V m p
 cases D with
 |true=>
  go_in
  go_wp2;go_ret;exact⟨rfl,⟨r,S,.inl rfl⟩,sZ _ _⟩
 |false=>
  by_cases u:fY c=0
  .have F:(fY c==0)=bW:=by rw[u];rfl
   have ao:fY c=0:=u;clear u;rcases Q.shape with rfl|⟨av,N,ac,rfl⟩;all_goals
    go_in
    go_wp2_with fail
    apply(Hp w<|by omega).mono;rintro t w0⟨rfl,rfl⟩;go_wp2_with fail
    apply(Xw c Q HL w x hr).mono;rintro t w1⟨O,rfl,g,n,j,e⟩;have an:w1.frozen? (R b 0)=bF:=(e.frozen<|by exact q).trans E;have ad:aT w1 (R b 0)=_:=(e.cell<|by exact q).trans C;have f:bV O≠H b:=λt=>by rcases j with h|h;exact A<|h▸t;exact absurd (h b t)<|by omega
    have P:=U<|mj.set HH e g n f;have L:=g.shape;have HOr:=U (show bV O=r\/∀k,bV O=H k->z (G w0)<=k from j.imp (λt=>t.trans B) id);clear g n e f j;rcases L with rfl|⟨b1,X,T,rfl⟩;all_goals
     go_wp2;go_ret;exact⟨rfl,⟨_,P.1,HOr⟩,P.2⟩
  .have F:(fY c==0)=bF:=kL.2 u;go_in
   go_wp2_with fail
   apply(Hp w<|by omega).mono;rintro t w0⟨rfl,rfl⟩;go_wp2;go_ret;exact⟨rfl,⟨r,S,.inl rfl⟩,sZ _ _⟩
def KF(k:Option M)(h:mj a b k K D d):cy bG 28 #[aA b] a λl o=>
 l=aO (aA<|z<|G a)/\mj o (z<|G a) k K bF aK/\∃c,o=ct a c:=by
 obtain⟨⟨v,m,f,n⟩,i,c⟩:=h
 have q:=cellAt m 0 rfl
 have fin:mj (ct a<|ar #[v,aK,aL bF] 46) (z<|G a) k K bF aK:=⟨⟨v,ft _ _,Row.grown f (dr a _ none) (by rcases f.shape with rfl|⟨r,e,g,rfl⟩;exact .inr rfl;exact .inl<|by simp[bV]),n⟩,λl=>by have:=c _ l;omega,λi l=>by have:=c i l;simp;omega⟩
 have p:=U fin
 have j:=f.shape
 clear fin m f n i c
 rcases j with rfl|⟨r,e,g,rfl⟩
 all_goals
  go_in
  go_wp2;go_ret;exact⟨rfl,p,_,rfl⟩
