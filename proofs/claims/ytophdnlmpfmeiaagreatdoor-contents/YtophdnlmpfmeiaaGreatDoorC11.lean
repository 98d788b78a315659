import Derived.Carry
import Derived.Defers
import Derived.Test.YtophdnlmpfmeiaaGreatDoorC5
import Derived.Test.YtophdnlmpfmeiaaGreatDoorC6
import Derived.Test.YtophdnlmpfmeiaaGreatDoorC8
namespace Go.Proofs.YtophdnlmpfmeiaaGreatDoor
open ChangeShapes WideShapes RowKit Proofs.Tryz
set_option maxHeartbeats 16000000
set_option linter.all false
set_option maxRecDepth 100000
def bR.xV{w:J}{a:Nat}{K:DK}(h:bR w a K)(r m:Int):nJ w ((w.setCell ⟨a,6,none⟩ (.int .i64 r)).setCell ⟨a,7,none⟩ (.int .i64 m)) a K {K with reads:=r,iB:=m}:=by
 have b:I (λk=>k=a) w ((w.setCell ⟨a,6,none⟩ (.int .i64 r)).setCell ⟨a,7,none⟩ (.int .i64 m)):=((I.refl (λk=>k=a) w).setCell a 6 _ (.inl rfl)).setCell a 7 _ (.inl rfl);have f:(w.setCell ⟨a,6,none⟩ (.int .i64 r)).heap[a]?=some (.cells #[.map (some K.nb),.map (some K.sb),K.mv,.int .i64 1099511627776,.int .i64 0,.int .i64 0,.int .i64 r,.int .i64 K.iB] 73 (0,0)):=by rw[aL h.fN];rfl
 refine⟨⟨?_,h.now.ay b ?_,h.safe.ay b ?_,h.ne,b.own h.steps ?_,?_,?_,h.apart⟩,b.mono (λx e=>.inl (.inl e)),λk e=>.inl e⟩
 ·unfold kR;rw[aL f];rfl
 ·exactλe=>h.now.tag h.fN e.symm
 ·exactλe=>h.safe.tag h.fN e.symm
 ·exactλk e=>(h.Da e).2.2
 ·intro x g;refine(h.each x g).ay b (λk e=>?_);obtain⟨c,i,d⟩:=(h.each x g).2.2 k e;exact fj d h.fN (by decide)
 ·intro i g;have hF:=h.files i g;refine hF.ay b (fj hF.1 h.fN (by decide)) (λk e=>?_);obtain⟨c,d⟩:=dS hF.2.1 e;exact fj d h.fN (by decide)
def vW(a:Nat)(K:DK)(r:aa)(F:bY)(m n:Nat)(w:J)(E:bR w a K)(hg:kI K.files r=some F)(hl:F.bytes.length<=1099511627776)(Q:m<=F.bytes.length)(hn:n<=1099511627776):Calls prog 127 #[.pointer (some ⟨a,0,none⟩),.string r,.int .i64 m,.int .i64 n] w λe B=>∃A,e=.returned (.tuple #[A,.nilIface])/\dq B w.heap.size A ((F.bytes.drop m).take n)/\∃u,nJ w B a K u/\u.files=K.files/\u.cY=K.cY/\∀k,u.aS a k->K.aS a k:=by
 obtain⟨N,h,o⟩:=iy hg;have ba:w.cell? ⟨a,6,none⟩=some (.int .i64 K.reads):=by rw[aj E.fN];rfl
 have bd:w.frozen? ⟨a,6,none⟩=false:=cG E.fN;have t:∀s,(w.setCell ⟨a,6,none⟩ (.int .i64 s)).cell? ⟨a,7,none⟩=some (.int .i64 K.iB)/\(w.setCell ⟨a,6,none⟩ (.int .i64 s)).frozen? ⟨a,7,none⟩=false:=by
  intro s;have q:(w.setCell ⟨a,6,none⟩ (.int .i64 s)).heap[a]?=some (.cells #[.map (some K.nb),.map (some K.sb),K.mv,.int .i64 1099511627776,.int .i64 0,.int .i64 0,.int .i64 s,.int .i64 K.iB] 73 (0,0)):=by rw[aL E.fN];rfl
  exact⟨by rw[aj q];rfl,cG q⟩
 have bb:=λs=>(t s).1;have bf:=λs=>(t s).2;have X:=Z (λs D=>qS a K.nb K.sb K.mv 1099511627776 s D _ r ⟨F.lM,0,none⟩ _ (E.xV s D).ok.fN (E.xV s D).ok.now o);have H:∀s D,((w.setCell ⟨a,6,none⟩ (.int .i64 s)).setCell ⟨a,7,none⟩ (.int .i64 D)).cell? ⟨F.lM,0,none⟩=some F.data:=λs D=>by rw[aj ((E.xV s D).ok.files F h).1];rfl
 have j:=(E.files F h).2.1;have b:=Z (λ(s D:Int)(R:M)(bs:List Int)(hb:Bytes w R bs)(O:bs.length<=1099511627776)(V:∀k,R.ownBlock=some k->F.data.ownBlock=some k)=>
  have L:=E.xV s D
  have G:Bytes ((w.setCell ⟨a,6,none⟩ (.int .i64 s)).setCell ⟨a,7,none⟩ (.int .i64 D)) R bs:=by
   have q:F.data.ownBlock≠some a:=um j E.fN (by decide);have y:R.ownBlock≠some a:=λe=>q (V a e);exact(hb.grown (co w a 6 _) (.inl y)).grown (co _ a 7 _) (.inl y)
  show Calls prog 50 #[R] ((w.setCell ⟨a,6,none⟩ (.int .i64 s)).setCell ⟨a,7,none⟩ (.int .i64 D)) λe B=>∃A,e=.returned A/\dq B w.heap.size A bs/\∃u,nJ w B a K u/\u.files=K.files/\u.cY=K.cY/\∀k,u.aS a k->K.aS a k from(Be R bs _ G O (λk e=>by
   have:=(aK j k (V k e)).2;simpa[World.setCell]using this)).mono (by
    rintro e B⟨A,rfl,y,q⟩;have z:((w.setCell ⟨a,6,none⟩ (.int .i64 s)).setCell ⟨a,7,none⟩ (.int .i64 D)).heap.size=w.heap.size:=by simp[World.setCell]
    rw[z]at y q;have W:I (λ_=>False) ((w.setCell ⟨a,6,none⟩ (.int .i64 s)).setCell ⟨a,7,none⟩ (.int .i64 D)) B:=I.aR (by rw[z];exact q);exact⟨A,rfl,y,_,⟨L.ok.ay W (λ_ _=>id),L.ay.trans W (λ_ e=>e.elim),L.aS⟩,rfl,rfl,λ_ e=>e⟩))
 have x:=dq.bytes j;rcases(show _ from j).2 with⟨f,C⟩|⟨an,v,ao,f,_,_,bh,bc,_,_⟩
 ·have q:F.bytes=[]:=aG C;have z:m=0:=by rw[q]at Q;simpa using Q
  subst z;rw[f]at H;have G:(F.bytes.drop 0).take n=[]:=by rw[q];simp
  rw[G];have g:=Z (show∀U,(Value.slice none 0 0).ownBlock=some U->F.data.ownBlock=some U fromλU e=>by cases e);clear E j x f N h o hg G q Q hl;rcases de n with y|y
  ·subst y;by_cases hm:K.iB<((0:Nat):Int);all_goals
    go_enter func127,ntmps127
    go_wp2_with(first
     |(go_at_call 117;refine((Y X) _ _).mono ?_;rintro e P⟨rfl,hw⟩;subst P)
     |(go_at_call 50;refine((Y b) _ _ (.slice none 0 0) [] (.inl ⟨rfl,rfl⟩) (aU _) (Y g)).mono ?_;rintro e w2⟨v2,rfl,d,c⟩;have i:=Z d;have l:=Z c;clear d c))
    go_ret2
    exact⟨_,rfl,Y i,Y l⟩
  ·by_cases hm:K.iB<n;all_goals
    go_enter func127,ntmps127
    go_wp2_with(first
     |(go_at_call 117;refine((Y X) _ _).mono ?_;rintro e P⟨rfl,hw⟩;subst P)
     |(go_at_call 50;refine((Y b) _ _ (.slice none 0 0) [] (.inl ⟨rfl,rfl⟩) (aU _) (Y g)).mono ?_;rintro e w2⟨v2,rfl,d,c⟩;have i:=Z d;have l:=Z c;clear d c))
    go_ret2
    exact⟨_,rfl,Y i,Y l⟩
 ·have H1:∀k,m+k<=F.bytes.length->Bytes w (.slice (some ⟨an,m,none⟩) k (v-m)) ((F.bytes.drop m).take k):=by
   intro k R;rw[f]at x;have t:=x.uv Q;rw[cw]at t;have h2:=Bytes.take (bs:=F.bytes.drop m) (by simpa using t) (n:=k) (by simp;omega);exact h2
  have H0:∀k,m+k<=F.bytes.length->m=v->Bytes w (.slice (some ⟨an,0,none⟩) k 0) ((F.bytes.drop m).take k):=by
   intro k R e;obtain rfl:k=0:=by omega
   exact .inr ⟨an,0,0,by simp,by simp,λk R=>by simp at R⟩
  have al:∃k,k=min n (F.bytes.length-m)/\m+k<=F.bytes.length/\(F.bytes.drop m).take k=(F.bytes.drop m).take n:=⟨min n (F.bytes.length-m),rfl,by omega,by rw[List.take_eq_take_iff];simp⟩;obtain⟨k,R,G,O⟩:=al;have z:=H1 k G;have y:=H0 k G;rw[O]at z y;have L:((F.bytes.drop m).take n).length<=1099511627776:=by simp;omega
  have W:=Z z;have V:=Z y;have ac:=Z L;have q:∀(o b a U:Nat),(Value.slice (some ⟨an,o,none⟩) b a).ownBlock=some U->F.data.ownBlock=some U:=by rw[f];exactλ_ _ _ U e=>e
  have g:=Z q;rw[f]at H;clear z y L E j x H1 H0 q f N h o hg O;have ax:m<=v:=by omega
  by_cases hm:K.iB<n;all_goals
   by_cases ad:m=v;all_goals
    by_cases bg:n<=F.bytes.length-m;all_goals
     go_enter func127,ntmps127
     go_wp2_with(first
      |(go_at_call 117;refine((Y X) _ _).mono ?_;rintro e P⟨rfl,hw⟩;subst P)
      |(go_at_call 50;refine((Y b) _ _ _ ((F.bytes.drop m).take n) (by
       have t:=Y W;have C:=Y V;first
        |((have e:k=n:=by omega);rw[e]at C;exact C (by omega))
        |((have e:k=0:=by omega);rw[e]at C;exact C (by omega))
        |((have e:k=n:=by omega);rw[e]at t;exact t)
        |((have e:k=F.bytes.length-m:=by omega);rw[e]at t;exact t)) (Y ac) (λU e=>(Y g) _ _ _ U e)).mono ?_;rintro e w2⟨v2,rfl,d,c⟩;have i:=Z d;have l:=Z c;clear d c))
     go_ret2
     exact⟨_,rfl,by first|exact Y i|(have h9:=Y i;rw[ad]at h9;exact h9),Y l⟩
def nB(b:Nat):DK:=⟨b,b+1,.slice none 0 0,0,0,[],[],[]⟩
def AQ(w:J):eC (w.alloc (.map #[] 0)) w.heap.size []:=⟨#[],0,ew _ _,rfl,MapKept.stamped_empty 0⟩
def xg(w:J):Calls prog 9 #[.int .i64 1099511627776] w λe b=>e=.returned (.pointer (some ⟨w.heap.size+2,0,none⟩))/\bR b (w.heap.size+2) (nB w.heap.size)/\Below w.heap.size w b:=by
 have d:=@sx prog;have a:bR (((w.alloc (.map #[] 0)).alloc (.map #[] 0)).alloc (.cells #[.map (some w.heap.size),.map (some (w.heap.size+1)),.slice none 0 0,.int .i64 1099511627776,.int .i64 0,.int .i64 0,.int .i64 0,.int .i64 0] 73)) (w.heap.size+2) (nB w.heap.size):=by
  refine⟨?_,((AQ w).alloc _).alloc _,?_,by simp[nB],bC _ _ _ _,by simp[nB],by simp[nB],by simp[nB]⟩
  ·have:=ew ((w.alloc (.map #[] 0)).alloc (.map #[] 0)) (.cells #[.map (some w.heap.size),.map (some (w.heap.size+1)),.slice none 0 0,.int .i64 1099511627776,.int .i64 0,.int .i64 0,.int .i64 0,.int .i64 0] 73);simpa[kR,nB]using this
  ·have:=(AQ (w.alloc (.map #[] 0))).alloc (.cells #[.map (some w.heap.size),.map (some (w.heap.size+1)),.slice none 0 0,.int .i64 1099511627776,.int .i64 0,.int .i64 0,.int .i64 0,.int .i64 0] 73);simpa[nB]using this
 have c:=Z a;clear a;go_enter func9,ntmps9
 go_wp2;go_ret;exact⟨rfl,Y c,((((Below.refl _ w).alloc (ai _) _).alloc (by simp) _).alloc (by simp;omega) _)⟩
def yN{v:M}:∀{m:dA}{k:aa},m.get k=none->m.put k v=m++[(k,v)]
 |[],k,_=>rfl
 |p::r,k,h=>by
  unfold dA.get at h;by_cases e:p.1=k
  ·rw[dr e]at h;cases h
  ·rw[dd e]at h;unfold dA.put;rw[dd e,yN h];rfl
def Ek{v:M}:∀{m:dA}{k:aa},m.get k=none->dA.get (m++[(k,v)]) k=some v
 |[],k,_=>by simp[dA.get]
 |p::r,k,h=>by
  unfold dA.get at h;by_cases e:p.1=k
  ·rw[dr e]at h;cases h
  ·rw[dd e]at h;show dA.get (p::(r++[(k,v)])) k=some v;unfold dA.get;rw[dd e];exact Ek h
def El{a:List bY}{k:aa}(h:k∉a.map bY.name):dA.get (a.map bY.nm) k=none:=by
 induction a with
 |nil=>rfl
 |cons f a b=>
  rw[aY,aD,not_or]at h;rw[aY];unfold dA.get;rw[dd (λe=>h.1 e.symm)];exact b h.2
def nt{w:J}{e k:Nat}{m:dA}{b:Array M}{t:TypeId}{c:Nat×Nat}(j:eC w e m)(a:w.heap[k]?=some (.cells b t c)):k≠e:=by
 rintro rfl;obtain⟨h,g,d,_⟩:=j;rw[d]at a;cases a
def bR.add{w o:J}{l:Nat}{K:DK}{f:bY}{j:dA}(m:bR w l K)(z:K.cY=[])(u:I (λk=>k=K.nb\/k=K.sb) w o)(n:eC o K.nb (K.files.map bY.nm++[f.nm]))(h:eC o K.sb j)(y:tw o f)(C:w.heap.size<=f.lM)(x:∀k,f.data.ownBlock=some k->w.heap.size<=k):bR o l {K with files:=K.files++[f],sm:=j}/\∀k,DK.aS l {K with files:=K.files++[f],sm:=j} k->K.aS l k\/k=f.lM\/f.data.ownBlock=some k:=by
 have a:∀{k:Nat}{b:Array M}{t:TypeId}{c:Nat×Nat},w.heap[k]?=some (.cells b t c)->¬(k=K.nb\/k=K.sb):=λe d=>d.elim (nt m.now e) (nt m.safe e);refine⟨⟨?_,?_,h,m.ne,?_,?_,?_,?_⟩,?_⟩
 ·exact(u.block l (ak m.fN) (a m.fN)).trans m.fN
 ·rw[aN];exact n
 ·exact u.own m.steps (λk e d=>by obtain⟨q,r⟩:=dS m.steps e;exact a r d)
 ·show∀A∈K.cY,_;rw[z];simp
 ·intro g b;rcases aw.1 b with b|b
  ·have c:=m.files g b;exact c.ay u (a c.1) (λk e d=>by obtain⟨q,r⟩:=dS c.2.1 e;exact a r d)
  ·obtain rfl:=bE.1 b;exact y
 ·show(K.files++[f]).Pairwise jQ;rw[bU];refine⟨m.apart,List.pairwise_singleton _ _,λg b B s=>?_⟩;obtain rfl:=bE.1 s;have c:=m.files g b;refine⟨λD=>by have:=ak c.1;omega,λk e t=>?_⟩;have:=(aK c.2.1 k e).2;have:=x k t;omega
 ·rintro k(d|d|d|d|⟨A,s,d⟩|⟨g,b,d⟩)
  ·exact .inl (.inl d)
  ·exact .inl (.inr (.inl d))
  ·exact .inl (.inr (.inr (.inl d)))
  ·exact .inl (.inr (.inr (.inr (.inl d))))
  ·exact .inl (.inr (.inr (.inr (.inr (.inl ⟨A,s,d⟩)))))
  ·rcases aw.1 b with b|b
   ·exact .inl (.inr (.inr (.inr (.inr (.inr ⟨g,b,d⟩)))))
   ·obtain rfl:=bE.1 b;exact .inr (d.imp Eq.symm id)
def uX{P:Program}{r:Oper}{g:Act}{w:J}{K:Act->J->Prop}{Q:Exit->Act->J->Prop}(h A j:Operand)(z:TypeId)(e:r.op=Op.mapUpdate z h A j)(x B:TypeId)(o:P.underlying z=some (.map x B))(m:P.underlying x=some .string)(k:Nat)(y:dA)(n:g.eval h=.map (some k))(C:eC w k y)(a:aa)(b:M)(q:g.eval A=.string a)(p:g.eval j=b)(l:∀c,eC c k (y.put a b)->w.grownBy c (some k)->c.heap.size=w.heap.size->K (g.put r.dst undef) c):Oper.wp P r g w K Q:=by
 obtain⟨c,d,s,t,u⟩:=wS o m C a b;unfold Oper.wp;simp[execOp,e,n,q,p,d,Result.andThen];exact l c s t u
section
open Go.Conc.Locks
def bX.gH{w:J}{sb:Nat}{s:SR}{k:Int}(h:bX w sb s k)(j:Int):bX (w.setCell ⟨sb,0,none⟩ (.int .i32 j)) sb s j:=by
 have:=aL (i:=0) (u:=.int .i32 j) h;exact this
def BZ(w:J)(sb:Nat)(s:SR)(h:bX w sb s 0):Calls prog 95 #[.pointer (some ⟨sb,0,none⟩)] w λg b=>g=.returned (.bool s.closed)/\bX b sb s 0/\I (λk=>k=sb) w b:=by
 have d:w.cell? ⟨sb,0,none⟩=some (.int .i32 0):=h.cell rfl;have i:w.frozen? ⟨sb,0,none⟩=false:=h.free;have a:=h.gH 1;have c5:(w.setCell ⟨sb,0,none⟩ (.int .i32 1)).cell? ⟨sb,5,none⟩=some (.bool s.closed):=a.cell rfl;have e:(w.setCell ⟨sb,0,none⟩ (.int .i32 1)).cell? ⟨sb,0,none⟩=some (.int .i32 1):=a.cell rfl;have j:(w.setCell ⟨sb,0,none⟩ (.int .i32 1)).frozen? ⟨sb,0,none⟩=false:=a.free;have c:=Z (show bX ((w.setCell ⟨sb,0,none⟩ (.int .i32 1)).setCell ⟨sb,0,none⟩ (.int .i32 0)) sb s 0/\I (λk=>k=sb) w ((w.setCell ⟨sb,0,none⟩ (.int .i32 1)).setCell ⟨sb,0,none⟩ (.int .i32 0))from⟨a.gH 0,((I.refl (λk=>k=sb) w).setCell sb 0 _ (.inl rfl)).setCell sb 0 _ (.inl rfl)⟩);clear h a;go_enter_defers func95,ntmps95
 go_wp2_with(go_at_call 39;refine(lock_free ⟨sb,0,none⟩ _ d i).mono ?_;rintro g b⟨rfl,rfl⟩)
 refine ij (f:=40) (args:=#[.pointer (some ⟨sb,0,none⟩)]) (by simp) (by simp[go_sem]) ?_;refine(unlock_deferred ⟨sb,0,none⟩ .returning _ e j).mono ?_;rintro g m l⟨rfl,rfl,rfl⟩;exact⟨_,iL rfl _ _ _,rfl,Y c⟩
end
end Go.Proofs.YtophdnlmpfmeiaaGreatDoor
