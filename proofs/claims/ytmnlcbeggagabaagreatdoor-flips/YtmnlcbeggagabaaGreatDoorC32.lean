import Derived.Test.YtmnlcbeggagabaaGreatDoorC29
open _root_ renaming List.length→y,Option.some→H,Array.size→z,Go.World.heap→G,Go.World.cell?→aS,Go.World.alloc→cG,Bool.false→bj,Nat→M,Int→U,Go.Calls→cD,Go.Proofs.Tryz.prog→aZ,Go.Value.string→am,Go.Value.bool→aK,Go.Value.tuple→dd,Go.Value.agg→dD
namespace Go.Proofs.YtmnlcbeggagabaaGreatDoor
open ChangeShapes WideShapes RowKit Proofs.Tryz
set_option maxHeartbeats 16000000
set_option linter.all false
set_option maxRecDepth 100000
variable{a:Z}{b:M}{i:DK}{k:U}{l:dJ}{n:dN}{o:SR}
def vI.take(h:vI k l)(j:M):vI k (l.take j):=by
 have e:=BJ l j;have f:=h.sum;have g:=h.f1;refine⟨λd a=>h.iH d<|dU a,λi c x b=>?_,λd a=>h.one d<|dU a,by omega,h.f0,by rw[dj];omega⟩;rw[jY]at b;exact h.num i (by rw[dj]at c;omega) x b
def MK(d:dJ)(h:cf a b o k)(x:cH a o.aM i)(F:¬i.aO o.aM b)(hp:Pow a)(hT:Steps a)(u:¬i.aO o.aM 1)(p:o.log<18446744073709551616)(c:vI ((o.aT:U)+1) d)(hg:dB (vw i.files) (fD o.log)=H n)(m:iY n (jg ((o.aT:U)+1) d))(E:y (jg ((o.aT:U)+1) d)<=200000)(aV:o.aT<=1000000000):cD aZ 25 #[aA b] a λt f=>∃q,t=aJ (ot q)/\vL f q/\I (i.aO o.aM) a f:=by
 have ao:=ar h;have g:=tE o.log p hp;have au:=cf.cellAt h 17 rfl;have bb:IntKind.u64.wrap ((o.aT:U)+1)=(o.aT:U)+1:=by rw[fi];omega
 have C:y n<=200000:=by rw[m.len];exact E
 obtain⟨bd,tl,Q,e⟩:=Gr (λl p=>⟨c.iH l p,(c.one l p).2⟩) (by have:=yK<|λl p=>(c.one l p).1;have:=c.sum;omega) m;have al:0<y n:=by rw[Q,ag];have:=e.pos;omega
 have D:∀ax,I az a ax->aS ax (R b 2)=H (aA o.aM)/\cD aZ 54 #[aA o.aM,am<|fD o.log] ax λt f=>∃j aD,t=aJ (dd #[aY j 0 (y n) aD,.nilIface])/\cf f b o k/\I (i.aO o.aM) a f/\cD aZ 56 #[aY j 0 (y n) aD,aE<|(o.aT:U)+1] f λt g=>t=aJ (dd #[dD #[aw,aK bj],aK bj])/\I az f g:=λax P=>by have l:cf ax b o k:=(P.block b ao id).trans h;refine⟨l.cell rfl,?_⟩;refine(zG (db:=o.aM) (K:=i) (fD o.log) n (w:=ax) (x.ap P<|λ_ _=>id) hg<|by omega).mono ?_;rintro t f⟨v',rfl,ho,K',hd,e1,e2,e3⟩;have ac:Steps f:=Steps.ap (Steps.ap hT P id) hd.ap u;have w:=eE.bytes ho;obtain⟨q1,⟨q2,q0⟩|⟨bc,cp,aU,q2,ba,hh,a3,ad,an⟩⟩:=ho;omega;subst q2;(have h9:cp<=9223372036854775807:=by unfold maxLen at ad;omega);refine⟨bc,cp,rfl,(hd.ap.block b (ar l) F).trans l,(P.mono (T:=i.aO o.aM) cC).trans hd.ap<|λ_ aD=>.inl aD,?_⟩;rw[Q]at w a3|-;refine(BZ (Xqq:=True) (.inr ⟨trivial,e⟩) (by rw[Q,ag]at C;omega) bc 0 cp ac (c.take bd) a3 h9 (ar hh) w).mono ?_;rintro t w2(⟨_,h⟩|⟨h,_⟩);exact h;have:=e.pos;rw[h]at this;simp at this
 have V:=Y D;clear h x hp hT u hg al E D c p Q e m;generalize fD o.log=O at*;go_in
 go_wp2_with fail
 apply g.mono;rintro t w1⟨rfl,v⟩;obtain⟨k2,hr⟩:=V w1<|I.aQ v;clear v g;go_wp2_with fail
 apply hr.mono;rintro t w2⟨rx,rc,rfl,j,K,B⟩;have q9:=cf.cellAt j 9 rfl;have A:=Ik 10 w2;obtain⟨aF,W⟩:=And.intro (Y j) (Y K);clear j K hr k2 au;go_wp2_with fail
 apply A.mono;rintro t av⟨rfl,hw⟩;subst av;go_wp2_with fail
 apply B.mono;rintro t w3⟨rfl,L⟩;have X:=Y<|W.bW L;clear L B A;go_wp2_with fail
 refine(tJ O _).mono ?_;rintro t w4⟨rfl,s⟩;have r:vL w4 (z<|G<|cG w3<|ay #[aw,aK bj] 137):=by rw[s];exact vL.new _ _
 have e4:z (G<|cG w3<|ay #[aw,aK bj] 137)=z (G w3)+1:=by simp
 rw[e4]at r;have N:I (i.aO o.aM) a w4:=by rw[s];exact(X.alloc _).alloc _
 obtain⟨S,aa⟩:=And.intro (Y r) (Y N);clear r N s;go_wp2;go_ret;exact⟨_,rfl,S,aa⟩
