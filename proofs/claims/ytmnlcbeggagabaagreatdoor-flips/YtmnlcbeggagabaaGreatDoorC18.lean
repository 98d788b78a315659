import Derived.Test.YtmnlcbeggagabaaGreatDoorC13
open _root_ renaming List.length→y,Option.some→H,Array.size→z,Go.World.heap→G,Go.Value.ownBlock→cz,Go.World.cell?→aS,Go.World.setCell→cA,Go.World.alloc→cG,Bool.false→bj,Nat→M,Go.Calls→cD,Go.Proofs.Tryz.prog→aZ,Go.Value.slice→J
namespace Go.Proofs.YtmnlcbeggagabaaGreatDoor
open ChangeShapes WideShapes RowKit Proofs.Tryz
set_option maxHeartbeats 16000000
set_option linter.all false
set_option maxRecDepth 100000
variable{a f B:Z}{b c:M}{n:dN}{X:eT}
section
open Shelf
attribute [local go_sem] Oper.semAt_some
def Vx:(prog.info? 89).map (λi=>(i.zero,i.size,i.bytes))=H (H<|aE 0,1,8):=by kernel_rfl
structure LO(w:Z)(bm:M)(pre:dN)(B:eT)(W:Z):Prop where
 ex:∃pv,eG W (z<|G w) pv 206/\W.ownsRow (z (G w)+1) 89 1 pv (y pre) (pre.map<|Value.int .u64)/\∀k,B k↔k=z (G w)\/cz pv=H k
 ap:I (λk=>k=bm) w W
def LO.lt(i:LO a c n X B):∀k,X k->z (G a)<=k/\k<z (G B):=by
 obtain⟨l,j,d,e⟩:=i.ex;intro k g;rcases(e k).1 g with rfl|h;grind
 have:=bK d k h;omega
def LO.stays{T:eT}(m:LO a b n X f)(g:I T f B)(d:∀k,T k->¬X k/\(k=b\/z (G a)<=k)):LO a b n X B:=by
 obtain⟨l,i,j,c⟩:=m.ex;exact⟨⟨l,i.ap g<|λh=>(d _ h).1<|(c _).2<|.inl rfl,g.own j<|λk e h=>(d k h).1<|(c k).2<|.inr e,c⟩,m.ap.trans g<|λk e=>(d k e).2⟩
def Fp(ba:gz){K:dN}(hb:eG a b (.map<|H c) 79)(hm:kN a c ba)(ax:wv ba K)(hl:y K<=1000000):cD aZ 244 #[aw,.func (.func 215) #[] #[aA b]] a λbm w'=>
 ∃c,∃ad:dN,bm=aJ c/\ad.Perm K/\w'.ownsRow (z<|G a) 89 1 c (y ad) (ad.map<|Value.int .u64)/\I (λk=>k=b) a w':=by
 obtain⟨i0,au,aD,aF,aU⟩:=cU Vx
 have bc:=ar hb
 have Q:=hm.lt
 refine(dS (n:=3)).1 ?_
 refine callsIn_of_wp_marks func244 rfl trivial ?_ rfl
 simp only[ntmps244,ga,aW,eD,Nat.reduceAdd,Nat.reduceSub,eX,eW,gd,fq,de,dl]
 gi_wp2
 obtain⟨C,p⟩:∃C,cG a (ay #[aw] 206)=C:=⟨_,rfl⟩
 have bg:z (G C)=z (G a)+1:=by rw[<-p];simp
 have A:I az a C:=by rw[<-p];exact(cK az a)
 have hA0:LO a b [] (λk=>k=z (G a)) C:=⟨⟨aw,by rw[<-p];exact aH _ rfl,cO _ _ _ _,λk=>by simp[cz]⟩,A.mono cC⟩
 rw[p]
 refine wo (m:=3) (arg:=VU) (V:=Am) (n0:=z<|G a) (gf:=215) (lb:=#[aA b]) (pp:=λad _=>∃bl,(ad++bl).Perm K) (ff:=λad=>ad.Perm K) (S:=λk=>k=b) (λ_ h=>.inr<|.inr h) ?geval (enters_of func215 (by kernel_rfl) rfl) (λ_=>rfl) (GS (z<|G a) 2 b c ba K C (hb.ap A id) (hm.di<|A.block _ Q id) ax Q<|by omega) trivial (by omega) (λk e=>by omega) (λd L ac=>LO a b d L ac) (λ_ _ _ _=>False) _ hA0 (λk e r=>by omega) (λd L ac j=>j.lt) ?st (λ_ _ _ _ _ _ h=>h.elim) ?body ?done ?stop
 case geval=>rfl
 case st=>
  intro d L ac i bk j g f;refine j.stays g<|λk e=>⟨(f k e).1,?_⟩;rcases(f k e).2 with r|r|r
  .exact .inl r
  .exact r.elim
  grind
 case stop=>
  grind
 case body=>
  rintro lr d aV L ac bd ao W⟨bl,t⟩j _;have bf:y d+1<=1000000:=by have:=t.length_eq;grind
  unfold VU;simp only;have HA:=Y j;clear j t;gi_wp2;refine⟨I.refl _ _,λD g=>?_⟩;have hA2:=HA.stays g (λk e=>by grind);obtain⟨pv,B,v,P⟩:=hA2.ex;obtain⟨F,E,w⟩:=aC v;have z0:=B.cell;have bh:=ar B;have T:lr<z (G D):=ah W.1 g.size;have bb:=g.size;obtain⟨HV,O,HB,al,an⟩:=jk B v P g hA2.ap;clear B v P g hA2;subst w;have HX:=Y (show∀(l:ab)(o:Z),o.ownsRow (z (G a)+1) 89 1 l (y d+1) (d.map (Value.int .u64)++[aE aV])->eC (cG D<|ay #[aE aV] 89) o (J F (y d) E) l->(aS o (R (z<|G a) 0)=H (J F (y d) E)/\o.frozen? (R (z<|G a) 0)=bj)/\AW Am (λd L ac=>LO a b d L ac) (λ_ _ _ _=>False) (d++[aV]) L ac D lr .normal ⟨#[],[]⟩ (cA o (R (z<|G a) 0) l)fromλl o f i=>by
   have X:=(I.refl az D).alloc<|ay #[aE aV] 89;have aa:=I.fy i;have av:¬(cz (J F (y d) E)=H (z<|G a)):=λr=>by have:=(O.lt _ r).1;omega
   have u:eG o (z<|G a) (J F (y d) E) 206:=(HV.ap X id).ap aa av;have x:I L D (cA o (R (z<|G a) 0) l):=((X.mono (T:=L) cC).trans (aa.mono (T:=L)<|λk e=>.inl<|(HB k).2<|.inr e)<|λk e=>.inl e).setCell _ 0 _<|.inl<|(HB _).2<|.inl rfl;refine⟨⟨u.cell,u.free⟩,trivial,λk=>k=z (G a)\/cz l=H k,⟨⟨l,u.set l,?_,λk=>qH⟩,an.trans x<|λk e=>.inr (by rcases(HB k).1 e with r|r;omega;have:=(O.lt _ r).1;omega)⟩,(al.mono<|λk e=>.inl<|.inr e).trans x<|λk e=>.inl<|.inl e,x.block lr T ao,λk e=>?_⟩
   .rw[ag,aR];exact(io _ _ 0 _).own f (λk e r=>by have:=(bK f k e).1;omega)
   .rcases e with r|r
    .exact .inl<|(HB k).2<|.inl r
    .rcases i.uj with q|⟨bi,q,hy⟩
     .exact .inl<|(HB k).2<|.inr<|q▸r
     .rw[q]at r;cases r;exact .inr (by simp at hy;omega))
  gi_wp2_with(first
   |(gi_at_builtin;refine eP _ rfl (.tmp 8) (.tmp 10) 206 rfl (z (G a)+1) 89 i0 (.int .u64 0) 1 8 underlying206 au aD aF aU rfl (by decide) (.slice F (y d) E) (y d) (d.map (Value.int .u64)) rfl (aX O _) (R (z (G D)) 0) 1 1 [.int .u64 aV] rfl rfl (pq _ _ _) (by simp[Value.oneCell']) (by omega) (by omega) (by simp;omega) ?_;intro l o f i;obtain⟨⟨y0,y1⟩,s⟩:=HX l o f i;obtain⟨x6,c6,rfl⟩:=aC f;have N:=Y s;clear f i s))
  exact N
 case done=>
  intro ad D L ac f x j l _ s;obtain⟨pv,B,v,P⟩:=j.ex;obtain⟨F,E,w⟩:=aC v;have z0:=B.cell;have o:cz pv≠H D:=λq=>l<|(P D).2<|.inr q;obtain⟨O,t,u,i⟩:=fX v s j.ap f;have N:=ar s;clear j B v P s f;subst w;gi_wp2;have g:=gZ ac D<|.deferred none;refine⟨by simp,.inl ⟨_,_,rfl,run_takeDeferred t,?_⟩⟩;refine⟨_,jP rfl _ _ _,?_⟩;exact⟨_,ad,rfl,i,fM (g.own O<|λk e q=>o (by rw[<-q];exact e)) (by omega),u.trans g<|λk e=>.inr (by subst e;omega)⟩
def II(m:gz)(o:eG a b (.map<|H c) 79)(q:kN a c m)(f:wv m n)(p:y n<=1000000):cD aZ 213 #[.func (.func 215) #[] #[aA b]] a λr k=>
 ∃g,∃l:dN,r=aJ g/\l.Perm n/\k.ownsRow (z<|G a) 89 1 g (y l) (l.map<|Value.int .u64)/\I (λd=>d=b) a k:=by
 have h:=Fp m o q f p
 go_in
 go_wp2_with fail
 apply h.mono
 rintro r u⟨g,l,rfl,i,e,j⟩
 obtain⟨t,s,rfl⟩:=aC e
 have d:=Y<|And.intro i (And.intro e j)
 clear i e j
 go_wp2
 go_ret
 exact⟨_,l,rfl,d.1,d.2.1,d.2.2⟩
end
