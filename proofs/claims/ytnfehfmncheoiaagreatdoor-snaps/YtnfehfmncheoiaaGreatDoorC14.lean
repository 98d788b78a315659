import Derived.Test.YtnfehfmncheoiaaGreatDoorC9
import Derived.Test.YtnfehfmncheoiaaGreatDoorC10
open _root_ renaming List.length→y,Option.some→H,Array.size→z,Go.World.heap→G,Go.Value.ownBlock→bV,Go.World.cell?→aS,Go.World.setCell→bZ,Go.World.alloc→ct,Bool.false→bE,Bool.true→bU,Nat→M,Int→X,List→cr,Go.Calls→cw,Go.undef→iC,Go.Proofs.Tryz.prog→bF,Go.Value.slice→I,Go.Value.string→J,Go.Value.bool→aL,Go.Value.tuple→dA,Go.Value.agg→eD
namespace Go.Proofs.YtnfehfmncheoiaaGreatDoor
open ChangeShapes WideShapes RowKit Proofs.Tryz
set_option maxHeartbeats 16000000
set_option linter.all false
set_option maxRecDepth 100000
variable{a f C:Y}{b c g l:M}{d s N:aa}{e:cA}{j O:DK}{k:dW}{m:X}{n:SR}{o:eK}{v:ab}{w:E}{x:iV}
def bK.Xb{s:SR}(h:bK a b s m)(c:Bool):bK (bZ a (R b 20)<|aL c) b {s with kj:=c} m:=by
 have:=aQ (i:=20) (u:=aL c) h;exact this
def bK.Xa{s:SR}(h:bK a b s m)(c:Bool):bK (bZ a (R b 21)<|aL c) b {s with ki:=c} m:=by
 have:=aQ (i:=21) (u:=aL c) h;exact this
structure gw(w w':Y)(db sb:M)(K K':DK):Prop where
 ok:cJ w' db K'
 ar:Z (λk=>K.aZ db k\/k=sb) w w'
 aZ:∀k,K'.aZ db k->K.aZ db k\/z (G w)<=k
def gw.of{b sbqq:M}(h:rG a f b j O):gw a f b sbqq j O:=⟨h.ok,h.ar.mono<|λ_ c=>.inl<|.inl c,h.aZ⟩
def gw.refl{b sbqq:M}(h:cJ a b j):gw a a b sbqq j j:=⟨h,Z.refl _ _,λ_ c=>.inl c⟩
def gw.trans{w w' d:Y}{a:DK}(i:gw w w' c g j O)(k:gw w' d c g O a):gw w d c g j a:=⟨k.ok,i.ar.trans k.ar<|λx h=>h.elim (λe=>(i.aZ x e).imp .inl id)<|λe=>.inl<|.inr e,λx h=>(k.aZ x h).elim (λe=>i.aZ x e)<|λe=>.inr<|aD i.ar.size e⟩
def gw.set(h:gw a f b c j O)(e:¬O.aZ b c)(i:M)(v:aa):gw a (bZ f (R c i) v) b c j O:=by
 have d:Z (λk=>k=c) f (bZ f (R c i) v):=(Z.refl _ f).setCell c i v<|.inl rfl;exact⟨h.ok.ar d<|λk c f=>e<|f▸c,h.ar.trans d<|λk c=>.inl<|.inr c,h.aZ⟩
def rG.Ah(h:rG a f b j O)(d:¬j.aZ b c)(g:c<z (G a)):¬O.aZ b c:=λe=>(h.aZ c e).elim d<|λi=>by omega
def Al{s:SR}(h:bK a b s m)(hd:cJ a s.aN j)(hn:¬j.aZ s.aN b)(hp:Pow a)(hl:s.log<18446744073709551616)(hf:s.kj=bU->∃bs,dX (vw j.files) (iM s.log)=H bs/\y bs<=1000000000000)(hm:y j.eO<=1000000000000):cw bF 54 #[aw b] a λbi w'=>bi=aO .nilIface/\∃A,gw a w' s.aN b j A/\vw A.files=vw j.files/\y A.eO<=y j.eO/\bK w' b {s with kj:=bE,ki:=bE} m:=by
 have D:=aj h;have bb:∀bk E,cJ bk s.aN E->vw E.files=vw j.files->s.kj=bU->cw bF 91 #[aw s.aN,J<|iM s.log] bk λbi w'=>bi=aO .nilIface/\∃A,rG bk w' s.aN E A/\vw A.files=vw j.files/\A.eO=E.eO:=by intro bk E hW q g;obtain⟨bs,l,w⟩:=hf g;rw[<-q]at l;obtain⟨F,hF,c⟩:=ju l;refine(Pb (iM s.log) F hW hF (by rw[c];omega)).mono ?_;rintro bi w'⟨rfl,A,d,e,p⟩;refine⟨rfl,A,d,?_,p⟩;rw[e,Dm];simp only[c,(kG hF).1];rw[By l,q]
 have ba:∀bk E,cJ bk s.aN E->y E.eO<=y j.eO->cw bF 93 #[aw s.aN] bk λbi w'=>bi=aO .nilIface/\∃A,rG bk w' s.aN E A/\A.files=E.files/\A.eO=[]:=λbk E hW a=>Cb hW (by omega);obtain⟨ax,av,HP,ao,HB⟩:=jR bb ba hp hd h;have c2:=bK.cellAt h 2 rfl;have B:=bK.cellAt h 17 rfl;have au:=bK.cellAt h 20 rfl;have C:=bK.cellAt h 21 rfl;clear bb ba hp hd h hf;cases g:s.kj with
 |false=>
  rw[g]at au;cases hln:s.ki with
  |false=>
   rw[hln]at C;have r:=HB;obtain⟨k,t,u⟩:=dB (gw.refl (sbqq:=b) ao) (ah<|y j.eO) hn;go_in
   go_wp2;go_ret;refine⟨rfl,j,k,rfl,t,?_⟩;have x:=ae r;unfold bK SR.cells at x|-;simp only[g,hln]at x|-;exact x
  |true=>
   rw[hln]at C;have r:=HB;obtain⟨k,t,u⟩:=dB (gw.refl (sbqq:=b) ao) (ah<|y j.eO) hn;go_in
   have V:=av a j k.ok t;go_wp2_with fail
   apply V.mono;rintro bi w8⟨rfl,K8,o,W,ad⟩;have f:=o.Ah u<|ag D k.ar.size;have n:bK w8 b _ m:=r.ar o.ar u;have bn:aS w8 (R b 21)=H (aL bU):=n.cell (by rw[<-hln];rfl);have bq:w8.frozen? (R b 21)=bE:=n.free;obtain⟨bd,bc,bf,bg⟩:=gx ((k.trans<|gw.of o).set f 21<|aL bE) (n.Xa bE) W ad;clear o W ad f n V;go_wp2;go_ret;refine⟨rfl,K8,bd,by rw[ae bf],by rw[ae bg];exact bw _,?_⟩;have x:=ae bc;unfold bK SR.cells at x|-;simp only[g]at x|-;exact x
 |true=>
  rw[g]at au;cases hln:s.ki with
  |false=>
   rw[hln]at C;have hS:aS a.drew (R b 2)=H (aw s.aN)/\aS a.drew (R b 17)=H (aI s.log):=⟨c2,B⟩;go_in
   go_wp2_with fail
   rename_i QQ KK N;refine cg (λw=>aS w (R b 2)=H (aw s.aN)/\aS w (R b 17)=H (aI s.log)) 10 (by kernel_rfl) ?_;refine cQ 0 ?_;iterate 8 (refine eE (v:=?_) hS rfl (by kernel_rfl) iO rfl ?_ ?_;rotate_left;(focus(intro w hX;obtain⟨z0,z1⟩:=hX;go_simp;try rfl));simp only[Act.put,cX,Nat.reduceAdd])
   apply eh;refine aJ (i:=8) rfl rfl (by kernel_rfl) ?_;intro K8 K;go_simp;apply(vR s.log hl<|HP.ar (bX az a) id).mono;rintro bi w1⟨rfl,Q⟩;have c:Z az a w1:=(bX az a).ci<|Z.aT (S:=az) Q;have O:aS w1 (R b 2)=H (aw s.aN)/\aS w1 (R b 17)=H (aI s.log):=⟨c.cell c2 id D,c.cell B id D⟩;have al:=ax w1 j (ao.ar c<|λ_ _=>id) rfl g;refine K _ _ (λ_=>O) ?_;refine aJ (i:=9) rfl rfl (by kernel_rfl) ?_;intro K9 L;go_simp;apply al.mono;rintro bi q⟨rfl,K2,e,an,ac⟩;have br:=c.size;have d:bK q b s m:=(HB.ar c id).ar e.ar hn;have P:aS q (R b 2)=H (aw s.aN)/\aS q (R b 17)=H (aI s.log):=⟨d.cell rfl,d.cell rfl⟩;refine L _ _ (λ_=>P) ?_;refine aJ (i:=10) rfl rfl (by kernel_rfl) ?_;intro bl p;go_simp;refine p _ _ wu ?_;refine cO (by kernel_rfl) ?_ _;show KK _ _;apply N;have f:=e.Ah hn (by omega);have F:rG a q s.aN j K2:=⟨e.ok,(c.mono (T:=j.aZ s.aN) cG).trans e.ar<|λ_ h=>.inl h,λE A=>(e.aZ E A).imp id<|λba=>by omega⟩;have bm:aS q (R b 20)=H (aL bU):=d.cell (by rw[<-g];rfl);have bp:q.frozen? (R b 20)=bE:=d.free;have l:=d.Xb bE;have bo:aS (bZ q (R b 20)<|aL bE) (R b 21)=H (aL bE):=l.cell (by rw[<-hln];rfl);have e2:=bK.cellAt l 2 rfl;obtain⟨r,k,bh,t,u⟩:=jR l ((gw.of (sbqq:=b) F).set f 20<|aL bE) an (show y K2.eO<=y j.eO by rw[ac];exact ah _) f;clear N K L p hS O P al e an ac d l f F c Q c2 B au C;go_wp2;go_ret;refine⟨rfl,K2,k,bh,t,?_⟩;have x:=ae r;unfold bK SR.cells at x|-;simp only[g,hln]at x|-;exact x
  |true=>
   rw[hln]at C;have hS:aS a.drew (R b 2)=H (aw s.aN)/\aS a.drew (R b 17)=H (aI s.log):=⟨c2,B⟩;go_in
   go_wp2_with fail
   rename_i QQ KK N;refine cg (λw=>aS w (R b 2)=H (aw s.aN)/\aS w (R b 17)=H (aI s.log)) 10 (by kernel_rfl) ?_;refine cQ 0 ?_;iterate 8 (refine eE (v:=?_) hS rfl (by kernel_rfl) iO rfl ?_ ?_;rotate_left;(focus(intro w hX;obtain⟨z0,z1⟩:=hX;go_simp;try rfl));simp only[Act.put,cX,Nat.reduceAdd])
   apply eh;refine aJ (i:=8) rfl rfl (by kernel_rfl) ?_;intro K8 K;go_simp;apply(vR s.log hl<|HP.ar (bX az a) id).mono;rintro bi w1⟨rfl,Q⟩;have c:Z az a w1:=(bX az a).ci<|Z.aT (S:=az) Q;have O:aS w1 (R b 2)=H (aw s.aN)/\aS w1 (R b 17)=H (aI s.log):=⟨c.cell c2 id D,c.cell B id D⟩;have al:=ax w1 j (ao.ar c<|λ_ _=>id) rfl g;refine K _ _ (λ_=>O) ?_;refine aJ (i:=9) rfl rfl (by kernel_rfl) ?_;intro K9 L;go_simp;apply al.mono;rintro bi q⟨rfl,K2,e,an,ac⟩;have br:=c.size;have d:bK q b s m:=(HB.ar c id).ar e.ar hn;have P:aS q (R b 2)=H (aw s.aN)/\aS q (R b 17)=H (aI s.log):=⟨d.cell rfl,d.cell rfl⟩;refine L _ _ (λ_=>P) ?_;refine aJ (i:=10) rfl rfl (by kernel_rfl) ?_;intro bl p;go_simp;refine p _ _ wu ?_;refine cO (by kernel_rfl) ?_ _;show KK _ _;apply N;have f:=e.Ah hn (by omega);have F:rG a q s.aN j K2:=⟨e.ok,(c.mono (T:=j.aZ s.aN) cG).trans e.ar<|λ_ h=>.inl h,λE A=>(e.aZ E A).imp id<|λba=>by omega⟩;have bm:aS q (R b 20)=H (aL bU):=d.cell (by rw[<-g];rfl);have bp:q.frozen? (R b 20)=bE:=d.free;have l:=d.Xb bE;have bo:aS (bZ q (R b 20)<|aL bE) (R b 21)=H (aL bU):=l.cell (by rw[<-hln];rfl);have e2:=bK.cellAt l 2 rfl;obtain⟨r,k,bh,t,u⟩:=jR l ((gw.of (sbqq:=b) F).set f 20<|aL bE) an (show y K2.eO<=y j.eO by rw[ac];exact ah _) f;clear N K L p hS O P al e an ac d l f F c Q c2 B au C;have V:=av (bZ q (R b 20)<|aL bE) K2 k.ok t;go_wp2_with fail
   apply V.mono;rintro bi w8⟨rfl,K8,o,W,ad⟩;have f:=o.Ah u<|ag D k.ar.size;have n:bK w8 b _ m:=r.ar o.ar u;have bn:aS w8 (R b 21)=H (aL bU):=n.cell (by rw[<-hln];rfl);have bq:w8.frozen? (R b 21)=bE:=n.free;obtain⟨bd,bc,bf,bg⟩:=gx ((k.trans<|gw.of o).set f 21<|aL bE) (n.Xa bE) W ad;clear o W ad f n V;go_wp2;go_ret;refine⟨rfl,K8,bd,by rw[ae bf];exact bh,by rw[ae bg];exact bw _,?_⟩;have x:=ae bc;unfold bK SR.cells at x|-;simp only[g]at x|-;exact x
section
open Go.Conc.Locks
def SR.shut(s:SR):SR:={s with closed:=bU,memory:=aK,l0:=aK,l1:=aK,l2:=aK,l3:=aK,lT:=none}
def Vh(h:bK a b n 0)(e:n.closed=bU):cw bF 23 #[aw b] a λl d=>l=aO (lE 6)/\bK d b n 0/\Z (λk=>k=b) a d:=by
 have i:=bK.cellAt h 0 rfl;have m:a.frozen? (R b 0)=bE:=h.free;have c:=h.gQ 1;have c5:aS (bZ a (R b 0)<|jn 1) (R b 5)=H (aL bU):=c.cell (by rw[<-e];rfl);have j:=bK.cellAt c 0 rfl;have o:(bZ a (R b 0)<|jn 1).frozen? (R b 0)=bE:=c.free;have g:=U<|show bK (bZ (bZ a (R b 0)<|jn 1) (R b 0)<|jn 0) b n 0/\Z (λk=>k=b) a (bZ (bZ a (R b 0)<|jn 1) (R b 0)<|jn 0)from⟨c.gQ 0,((Z.refl (λk=>k=b) a).setCell b 0 _<|.inl rfl).setCell b 0 _<|.inl rfl⟩;clear h c e;go_enter_defers func23,ntmps23
 go_wp2_with(go_at_call 40;refine(lock_free (R b 0) _ i m).mono ?_;rintro l d⟨rfl,rfl⟩)
 refine eZ (f:=41) (args:=#[aw b]) (by simp) (by simp[go_sem]) ?_;apply(unlock_deferred (R b 0) .returning _ j o).mono;rintro l q p⟨rfl,rfl,rfl⟩;exact⟨_,gL rfl _ _ _,rfl,g⟩
def Sy(h:bK a b n 0)(hc:n.closed=bE)(ac:∃C A o,n.memory=I C A o)(S:∃C A o,n.l0=I C A o)(T:∃C A o,n.l1=I C A o)(V:∃C A o,n.l2=I C A o)(W:∃C A o,n.l3=I C A o)(hd:cJ a n.aN j)(t:¬j.aZ n.aN b)(hp:Pow a)(al:b≠2)(hl:n.log<18446744073709551616)(hf:n.kj=bU->∃bs,dX (vw j.files) (iM n.log)=H bs/\y bs<=1000000000000)(hm:y j.eO<=1000000000000):cw bF 23 #[aw b] a λx B=>x=aO .nilIface/\∃m,gw a B n.aN b j m/\vw m.files=vw j.files/\y m.eO<=y j.eO/\bK B b {n.shut with kj:=bE,ki:=bE} 0:=by
 have c0:=bK.cellAt h 0 rfl;have f0:a.frozen? (R b 0)=bE:=h.free;obtain⟨d,g⟩:∃d,bZ a (R b 0) (jn 1)=d:=⟨_,rfl⟩;have c:bK d b n 1:=by rw[<-g];exact h.gQ 1
 have v:Z (λao=>ao=b) a d:=by rw[<-g];exact(Z.refl (λao=>ao=b) a).setCell b 0 _<|.inl rfl
 have c5:aS d (R b 5)=H (aL bE):=c.cell (by rw[<-hc];rfl);have c6:=bK.cellAt c 6 rfl;have c7:=bK.cellAt c 7 rfl;have N:=bK.cellAt c 10 rfl;have O:=bK.cellAt c 11 rfl;have P:=bK.cellAt c 12 rfl;have Q:=bK.cellAt c 13 rfl;have au:=bK.cellAt c 16 rfl;have bc:d.frozen? (R b 16)=bE:=c.free;have g5:d.frozen? (R b 5)=bE:=c.free;have g7:d.frozen? (R b 7)=bE:=c.free;have av:d.frozen? (R b 10)=bE:=c.free;have ax:d.frozen? (R b 11)=bE:=c.free;have ba:d.frozen? (R b 12)=bE:=c.free;have bb:d.frozen? (R b 13)=bE:=c.free;obtain⟨q,k⟩:∃q,bZ (bZ (bZ (bZ (bZ (bZ (bZ d (R b 5)<|aL bU) (R b 7) aK) (R b 10) aK) (R b 11) aK) (R b 12) aK) (R b 13) aK) (R b 16) (.map none)=q:=⟨_,rfl⟩;have hS:bK q b n.shut 1:=by have hh:=aQ (i:=16) (u:=.map none)<|aQ (i:=13) (u:=aK)<|aQ (i:=12) (u:=aK)<|aQ (i:=11) (u:=aK)<|aQ (i:=10) (u:=aK)<|aQ (i:=7) (u:=aK)<|aQ (i:=5) (u:=aL bU) c;rw[k]at hh;exact hh
 have e:Z (λao=>ao=b) a q:=by rw[<-k];exact((((((v.setCell b 5 _<|.inl rfl).setCell b 7 _<|.inl rfl).setCell b 10 _<|.inl rfl).setCell b 11 _<|.inl rfl).setCell b 12 _<|.inl rfl).setCell b 13 _<|.inl rfl).setCell b 16 _<|.inl rfl
 have s:=Al hS (hd.ar e<|λao hk x=>t<|x▸hk) t (hp.ar e<|λx=>al x.symm) hl hf hm;obtain⟨E,D,F,K,L⟩:=jR hS (hd.ar e<|λao hk x=>t<|x▸hk) e g k;obtain⟨mx,mn,mc,em⟩:=ac;obtain⟨bi,bh,bg,ea⟩:=S;obtain⟨bx,bn,bk,eb⟩:=T;obtain⟨cx,cn,cc,ec⟩:=V;obtain⟨dx,dn,dc,ed⟩:=W;rw[em]at c7;rw[ea]at N;rw[eb]at O;rw[ec]at P;rw[ed]at Q;clear h c v hc hd hp hf hS e g k em ea eb ec ed;go_enter_defers func23,ntmps23
 go_wp2_with fail
 apply(lock_free (R b 0) _ c0 f0).mono;rintro x B⟨rfl,an⟩;rw[ae K]at an;subst B;go_wp2_with fail
 rw[ae L];apply s.mono;rintro x w2⟨rfl,K2,p,w,r,l⟩;have d0:=bK.cellAt l 0 rfl;have k0:w2.frozen? (R b 0)=bE:=l.free;have HF:=U (show∃m,gw a (bZ w2 (R b 0)<|jn 0) n.aN b j m/\vw m.files=vw j.files/\y m.eO<=y j.eO/\bK (bZ w2 (R b 0)<|jn 0) b {n.shut with kj:=bE,ki:=bE} 0 from by have bd:=aj E;have ad:¬K2.aZ n.aN b:=λo=>(p.aZ b o).elim t (λd=>by omega);have h0:gw a q n.aN b j j:=⟨D,F.mono<|λ_ o=>.inl<|.inr o,λ_ o=>.inl o⟩;exact⟨K2,(h0.trans p).set ad 0<|jn 0,w,r,l.gQ 0⟩);clear s l p w r t;go_wp2;refine eZ (f:=41) (args:=#[aw b]) (by simp) (by simp[go_sem]) ?_;apply(unlock_deferred (R b 0) .returning _ d0 k0).mono;rintro x u' bf⟨rfl,rfl,rfl⟩;exact⟨_,gL rfl _ _ _,rfl,HF⟩
end
def vg(a:Fs)(b:cr ab):Fs:=b.foldl vh a
def Jl{a:Fs}{m:ab}(h:m≠v):dX (vh a v) m=dX a m:=by
 induction a with
 |nil=>rfl
 |cons g r d=>
  obtain⟨c,f⟩:=g;by_cases e:c=v
  .simp only[vh,e,jf,dX];rw[cY<|λc=>h c.symm]
  .by_cases b:c=m
   .subst b;simp only[vh,cY h,dX,jf]
   .simp only[vh,cY e,dX,cY b,d]
def Ot(a:Fs)(b:cr ab)(n:ab):vg a (b++[n])=vh (vg a b) n:=by simp[vg]
def tq{a:Fs}{b:cr ab}(h:v∉b):dX (vg a b) v=dX a v:=by
 induction b generalizing a with
 |nil=>rfl
 |cons n r d=>
  show dX (vg (vh a n) r) v=dX a v;rw[d (λc=>h<|by simp[c]),Jl<|λc=>h<|by simp[c]]
def DP{K:DK}(ax:aa)(c:cr ab)(h:bK a b n m)(B:cJ a n.aN K)(W:¬K.aZ n.aN b)(hr:Row a 1 ax (y c) (c.map Value.string))(hv:∀av,bV ax=H av->av<z (G a)/\¬K.aZ n.aN av)(l:c.Nodup)(o:∀bf∈c,∃V,dX (vw K.files) bf=H V)(hm:y K.eO+y c<=1000000000000):cw bF 101 #[aw b,ax] a λbb w'=>bb=aO .nilIface/\∃S,rG a w' n.aN K S/\vw S.files=vg (vw K.files) c/\y S.eO=y K.eO+y c:=by
 have au:=aj h;rcases hr with⟨x,⟨rfl,h0⟩|⟨ba,p,ad,rfl,an,hc⟩⟩;(.obtain rfl:=aP h0;have q:=U<|rG.refl B;clear h B W hv l o x h0;(go_in);go_wp2;(go_loopw [10] (λC wr=>C=am 0/\wr=a) (λ_ _=>0));(case atStart=>exact⟨rfl,rfl⟩);(case round=>obtain⟨rfl,d⟩:=hrel;subst wr;go_wp2;go_ret;exact⟨rfl,K,q,rfl,rfl⟩));(.have hb:=hv ba rfl;obtain⟨HB,HC,HN,O,P,D⟩:=kF h hc W l o<|rG.refl B;clear h B W hv l o x hc;(go_in);go_wp2;(go_loopw [10] (λC wr=>∃(f:M)(j:DK),f<=y c/\C=am f/\rG a wr n.aN K j/\vw j.files=vg (vw K.files) (c.take f)/\y j.eO=y K.eO+f) (λC _=>y c-(intOf C).toNat));(case atStart=>exact⟨0,K,bw _,rfl,D,rfl,rfl⟩);(case round=>obtain⟨f,j,ao,rfl,k,d,g⟩:=hrel;by_cases e:f<y c;(.have al:aS wr (R ba<|p+f)=H (J c[f]):=k.ar.cell (HC f _ (by rw[dz,aH e];rfl)) hb.2 hb.1;have s:=HB.ar k.ar HN;have c2:=bK.cellAt s 2 rfl;(have i:c[f]∉c.take f:=by intro bd;obtain⟨C,hi,he⟩:=dO bd;(have v:C<f/\C<y c:=by simp at hi;omega);rw[gq]at he;have:=(List.nodup_iff_pairwise_ne.1 O);exact cy.1 this C f v.2 e v.1 he);obtain⟨V,r⟩:=P _<|ap e;(have hg:dX (vw j.files) c[f]=H V:=by rw[d,tq i];exact r);obtain⟨bc,hF,_⟩:=ju hg;have A:=Nr c[f] bc k.ok hF (by omega);obtain⟨Q,q,N⟩:=dB (show vg (vw K.files) (c.take<|f+1)=vh (vw j.files) c[f]by rw[ai e,Ot,d]) k g;clear k d g s i hg hF r;generalize c[f]=ac at*;(go_wp2_with fail);apply A.mono;rintro bb w1⟨rfl,T,t,u,w⟩;obtain⟨E,F,L⟩:=dB (q.trans t) (show vw T.files=vg (vw K.files) (c.take<|f+1)by rw[ae Q,u,SZ]) (show y T.eO=y K.eO+(f+1)by rw[w,ae N];omega);clear t u w A;go_wp2;go_roundw;(case rel=>exact⟨f+1,T,e,by go_num,E,F,L⟩);case measure=>simp[intOf];omega);(have i:f=y c:=by omega);subst i;rw[bN]at d;obtain⟨q,s,r⟩:=dB k d g;clear k d g;go_wp2;go_ret;exact⟨rfl,j,q,s,r⟩))
def iE(n:X)(l:cA):eK:=le 8 n++((y l:X)::l.flatMap nM)
def CO(n:X)(l:cA):eK:=iD (le 4 (y<|iE n l)++le 4 (mr<|iE n l))++iE n l
def Ce(h:w.Good):y (nM w)<=35:=by
 have:=tZ h;unfold BC at this;rw[af]at this;omega
def py{l:cA}(h:∀x∈l,x.Good):y (l.flatMap nM)<=35*y l:=by
 induction l with
 |nil=>simp
 |cons x r c=>
  have a:=Ce (h x<|by simp);have d:=c (λa b=>h a<|by simp[b]);rw[dH,af,ay];omega
structure WP(w0 w:Y)(hv bv:aa)(hs bs:eK):Prop where
 head:eJ w (z<|G w0) hv hs
 body:eJ w (z<|G w0) bv bs
 ne:∀k,bV hv=H k->bV bv≠H k
 ar:Z az w0 w
def WP.wrote{e c:eK}(h:WP a f d s o e)(j:eR f C d N)(m:eJ C (z<|G a) N c):WP a C N s c e:=by
 have i:=Z.fy j;refine⟨m,i.own h.body<|λk b p=>h.ne k p b,λk b g=>?_,h.ar.trans i<|λk b=>.inr (h.head.lt k b).1⟩;rcases j.uc with l|⟨n,l,q⟩;exact h.ne k (l.symm.trans b) g;rw[l]at b;cases b;have:=(h.body.lt _ g).2;omega
def Nw(l:cA)(ax a bp:M)(w:Y)(hT:Steps w)(hg:ax<z (G w))(hc:∀cv cu,(aE l)[cv]?=H cu->aS w (R ax<|a+cv)=H cu)(k:0<y l)(c:∀ao∈l,ao.Good)(hl:y l<=8):cw bF 124 #[bC ax a (y l) bp] w λav w'=>∃v',av=aO v'/\eJ w' (z<|G w) v' (CO (l[0]'k).bH l)/\Z az w w':=by
 obtain⟨i0,bv,cj,ck,cl⟩:=cz qh;have u:=c _<|ap k;have cs:=py c;have bq:aS w (R ax<|a+3)=H (aI (l[0]'k).bH):=by have:=hc _ _ (eA l 0 k).2.2.2;simpa using this
 obtain⟨r,hn⟩:∃r,(l[0]'k).bH=r:=⟨_,rfl⟩;have K:=u.b0;have L:=u.b1;rw[hn]at K L bq|-;have ca:=ph (baseqq:=z<|G w) (v:=aK) (bs:=[]) r (w:=w) (eJ.nil _ _) (ah _) (by simp) K L;have e1:IntKind.u8.wrap (y l:X)=y l:=by rw[IntKind.wrap_u8];omega
 obtain⟨HC,HG,HT⟩:=dB hc c hT;clear hc c u hn hT;go_in
 go_wp2_with fail
 apply ca.mono;rintro av w1⟨v1,rfl,A,ac⟩;have C:Z az w w1:=(Z.fy ac).mono (λba g=>by simp[bV]at g);have bT:=tU (z<|G w) v1 ([]++le 8 r) (y l:X) w1 A C.size (by simp[bY]);have bf:=U A;have bl:=U C;clear A C ac;go_wp2_with fail
 apply bT.mono;rintro av w2⟨v2,rfl,N,ad⟩;have bm:=U<|bl.trans (Z.fy ad)<|λba g=>.inr (bf.lt ba g).1;have bh:=U N;clear N ad;go_wp2;go_loopw [3,19] (λo i wr=>∃m:M,m<=y l/\i=am m/\eJ wr (z<|G w) o (le 8 r++((y l:X)::(l.take m).flatMap nM))/\Z az w wr) (λ_ i _=>y l-(intOf i).toNat)
 case atStart=>exact⟨0,bw _,rfl,by simpa using ae bh,bm⟩
 case round=>
  obtain⟨m,hm,rfl,b,d⟩:=hrel;have ce:=d.size;by_cases q:m<y l
  .have j:=HG l[m]<|ap q;have e:=eA l m q;have D:aS wr (R ax<|a+m*4)=H (J l[m].key):=d.cell (HC _ _ e.1) id hg;have F:aS wr (R ax<|a+m*4+1)=H (J l[m].val):=d.cell (by rw[aV];exact HC _ _ e.2.1) id hg;have O:aS wr (R ax<|a+m*4+2)=H (aL l[m].del):=d.cell (by rw[aV];exact HC _ _ e.2.2.1) id hg;have P:aS wr (R ax<|a+m*4+3)=H (aI l[m].bH):=d.cell (by rw[aV];exact HC _ _ e.2.2.2) id hg;have o:y (le 8 r++((y l:X)::(l.take m).flatMap nM))<=1000:=by
    have Q:=py (l:=l.take m)<|λao hx=>HG ao<|eC hx;have S:y (l.take m)<=8:=by simp;omega
    rw[af,ay,bY];omega
   have B:=U (show(le 8 r++((y l:X)::(l.take m).flatMap nM))++nM l[m]=le 8 r++((y l:X)::(l.take<|m+1).flatMap nM)from by
    rw[ai q,fZ];simp)
   clear e;generalize l[m]=ao at*;have f:=Po (z<|G w) u3 (le 8 r++((y l:X)::(l.take m).flatMap nM)) ao (ct wr<|aq #[J ao.key,J ao.val,aL ao.del,aI ao.bH] 164) (b.alloc _) (by simp;omega) (by omega) (by have:=j.LF;omega) (by have:=j.val;omega);generalize(le 8 r++((y l:X)::(l.take m).flatMap nM))=co at*;have x:=b.lt;have s:=U d;clear b d j o;obtain⟨W,xv,V,T⟩:=ao;simp only at D F O P f;unfold E.value at f;simp only at f;go_wp2_with fail
   apply f.mono;rintro av w3⟨v3,rfl,n,i⟩;have p:=U n;have t:=U i;clear n i;go_wp2;go_roundw;case rel=>
    refine⟨m+1,q,by go_num,by rw[<-ae B];exact p,?_⟩;exact(s.alloc _).trans (Z.fy t)<|λba g=>.inr (x ba g).1
   case measure=>simp[intOf];omega
  .have bx:m=y l:=by omega
   subst bx;rw[bN]at b;have br:y (iE r l)<=1000:=by unfold iE;rw[af,ay,bY];omega
   have s:0<y (iE r l):=by unfold iE;rw[af,bY];omega
   have f:eJ wr (z<|G w) u3 (iE r l):=b;obtain⟨bg,bc,ch,_,_,_⟩:=um f s;subst ch;obtain⟨e,j⟩:∃e,y (iE r l)=e:=⟨_,rfl⟩;have F:=U (show CO r l=iD (le 4 (e:M)++le 4 (mr<|iE r l))++iE r l by rw[<-j];rfl);rw[j]at br s;have cb:=jx (baseqq:=z<|G w) (v:=aK) (bs:=[]) (e:M) (w:=wr) (eJ.nil _ _) ce (by simp) (by omega) (by omega);have e2:IntKind.u32.wrap (e:X)=e:=sL (by omega) (by omega);have HO:=U f;have bn:=U d;rw[j];have p:=U j;clear b f d j;generalize iE r l=au at*;go_wp2_with fail
   apply cb.mono;rintro av w3⟨v3,rfl,n,i⟩;have hA3:WP w w3 v3 (bC bg 0 e bc) ([]++le 4 (e:M)) au:=by
    have V:Z az wr w3:=(Z.fy i).mono (λba g=>by simp[bV]at g);have S:eJ wr (z<|G w) (bC bg 0 e bc) au:=by have:=ae HO;rw[ae p]at this;exact this
    refine⟨n,V.own S<|λ_ _ cx=>cx,λba g hb=>?_,bn.ci V⟩;rcases i.uc with cp|⟨cn,cp,hy⟩
    .rw[cp]at g;cases g
    .rw[cp]at g;cases g;have:=(S.lt _ hb).2;omega
   have B:∀W,Z az w W->Steps W:=λW a=>HT.below (a.below (ah _) cG) HT.lt;have cd:=sk (bC bg 0 e bc) au w3 (B _ hA3.ar) (eJ.bytes hA3.body) (by rw[ae p];omega);have t:=U hA3;have bk:=U B;clear hA3 n i B;go_wp2_with fail
   apply cd.mono;rintro av w4⟨rfl,D⟩;subst w4;have bt:=zA au;have bs:=BF au;have T:=jx (mr au) t.head t.ar.size (by simp[bY]) bt bs;generalize mr au=cB at*;go_wp2_with fail
   apply T.mono;rintro av w4⟨v4,rfl,O,D⟩;have hA4:=t.wrote D O;have cc:=DG (bk _ hA4.ar) hA4.head hA4.ar.size (by simp[bY]);have bb:=U hA4;clear O D hA4;go_wp2_with fail
   apply cc.mono;rintro av w5⟨v5,rfl,P,al⟩;have hA5:=bb.wrote al P;have x:y ((([]++le 4 (e:M))++le 4 cB)++le 4 (mr<|([]++le 4 (e:M))++le 4 cB))=12:=by simp[bY]
   obtain⟨hx,bu,W⟩:=aB hA5.head;rw[x]at W;subst W;have cm:=hA5.ar.size;have o:=U hA5;have bd:=U x;clear P al hA5 x;go_wp2_with(first
    |(at_builtin;go_loud(refine bQ _ rfl (.tmp 36) (.tmp 37) 126 rfl (z (G w)) 5 i0 (.int .u8 0) 1 1 underlying126 bv cj ck cl rfl (by decide) (.slice hx 12 bu) 12 (((([]++le 4 (e:M))++le 4 cB)++le 4 (mr (([]++le 4 (e:M))++le 4 cB))).map (Value.int .u8)) rfl (by have h0:=o.head;unfold eJ at h0;rw[ae bd]at h0;exact h0) (R bg 0) e bc (au.map (Value.int .u8)) rfl (by rw[cV,ae p,rf]) (tv (eJ.bytes o.body)) (by intro cu hu;simp only[aY]at hu;obtain⟨cn,_,rfl⟩:=hu;rfl) (by omega) (by omega) cm ?_;intro v6 w6 Q an;have bi:=U Q;have bo:=U an;clear Q an)))
   go_ret;refine⟨_,rfl,?_,o.ar.trans (Z.fy bo)<|λba g=>.inr (o.head.lt ba g).1⟩;rw[ae F];refine eJ.of bi ?_ ?_
   .rw[af,gu,ae p,af,bY,bY]
   .unfold iD;simp
def Ln(P a c bn:M)(B b:eK){w:Y}(hT:Steps w)(br:0<y B)(hB:y B<=100000)(hR:y b<=1000000000)(hL:bn=12+y B+y b)(bt:bn<=c)(cd:c<=9223372036854775807)(hb:Bytes w (bC P a bn c) (iD (le 4 (y B)++le 4 (mr B))++B++b)):cw bF 157 #[bC P a bn c] w λan w'=>∃bm bv,an=aO (dA #[bC P (a+12) (y B)<|c-12,bC P bm (y b) bv,aL bU])/\y b<=bv/\bv<=9223372036854775807/\Bytes w (bC P (a+12) (y B)<|c-12) B/\Bytes w (bC P bm (y b) bv) b/\Z az w w':=by
 have E:P<z (G w):=hb.lt (by intro an;have:=bS y an;simp[iD,bY]at this) P rfl;have F:y (iD<|le 4 (y B)++le 4 (mr B))=12:=by simp[iD,bY]
 have k:y (iD (le 4 (y B)++le 4 (mr B))++B++b)=bn:=by rw[af,af,F,hL]
 rw[<-k]at hb;have f:=hb.take (n:=12) (by rw[k];omega);have e:=hb.BD (n:=12) (by rw[k];omega);rw[aU,iI (by omega),cS<|by omega]at f;rw[k,aU,List.drop_append_of_le_length (by omega),pQ (by omega),cC]at e;obtain⟨d,hM⟩:∃d,bn-12=d:=⟨_,rfl⟩;obtain⟨O,hC⟩:∃O,c-12=O:=⟨_,rfl⟩;rw[hM,hC]at e;have A:y (B++b)=d:=by rw[af];omega
 rw[<-A]at e;have o:=e.take (n:=y B) (by simp);rw[pM]at o;have D:=e.BD (n:=y B) (by simp);rw[sG,A]at D
 have bk:=xe P a c (le 4 (y B)++le 4 (mr B)) hT (by simp[bY];omega) (by simp[bY]) (by
  have:y (le 4 (y B)++le 4 (mr B))+4=12:=by simp[bY]
  rw[this];exact f)
 have bd:y (le 4 (y B)++le 4 (mr B))=8:=by simp[bY]
 rw[bd]at bk;have s:Bytes w (bC P a 8 c) (le 4 (y B)++le 4 (mr B)):=by rw[<-F]at f;have q:=f.take (n:=8) (by omega);(have e8:(iD<|le 4 (y B)++le 4 (mr B)).take 8=le 4 (y B)++le 4 (mr B):=by unfold iD;rw[iI (by omega),cS<|by omega]);rw[e8]at q;exact q
 have C:d-y B=y b:=by omega
 obtain⟨g,j⟩:∃g,y B=g:=⟨_,rfl⟩;obtain⟨RL,l⟩:∃RL,y b=RL:=⟨_,rfl⟩;obtain⟨cB,p⟩:∃cB,mr B=cB:=⟨_,rfl⟩;have v:∀W,Z az w W->cw bF 189 #[bC P (a+12) g O] W λan w'=>an=aO (dr cB)/\w'=W:=by intro W hW;have q:=hW.below (ah _) cG;rw[<-j,<-p];exact sk _ B W (hT.below q hT.lt) (o.below q (λbs r=>by cases r;exact E))<|by omega
 have au:=zA B;have av:=BF B;rw[p]at au av;obtain⟨S,V,al,bp⟩:=gx s v o D;rw[j,l]at C hL;rw[j]at br hB;rw[l]at hR;obtain⟨i,T,bq⟩:=dB j l p;have e1:(12:X)<=(bn:X):=by omega
 have e2:(bn:X)<=(c:X):=by omega
 have e3:¬(bn:X)<12:=by omega
 have e4:¬(c=12):=by omega
 have e5:¬(c-12=0):=by omega
 have e6:(12:X)<=(c:X):=by omega
 have e7:(g:X)<=(d:X):=by omega
 have e8:(g:X)<=(O:X):=by omega
 have e9:¬((d:X)<(g:X)):=by omega
 have bx:IntKind.u64.wrap (g:X)=g:=by rw[gX];omega
 have bT:IntKind.u64.wrap (d:X)=d:=by rw[gX];omega
 have ca:(d:X)<=(O:X):=by omega
 have bu:∀(ch:Bool)(w:Y),(Op.unary .not<|aL ch).run bF w=.ok (aL<|!ch) w:=λ_ _=>rfl;have cc:RL+g<=O:=by omega
 have cb:O<=9223372036854775807:=by omega
 clear hb f e s v o D hT j l p hL k A F bd;rw[ae i,ae T,hC];go_in
 go_wp2_with fail
 apply bk.mono;rintro an N⟨rfl,m⟩;have bh:Z az w N:=Z.aT m;have bc:=mU (S.below m (λbs r=>by cases r;exact E)) (by intro bs r;cases r;exact ag E m.size);have ac:=U bh;clear m bh;go_wp2_with fail
 apply bc.mono;rintro an w2⟨rfl,t,L⟩;have bi:Z az N w2:=by rw[L];exact(Z.refl _ N).alloc _
 have ce:z (G N)<z (G w2):=by rw[L];simp
 have bl:=rX (z<|G N) (g:M) (le 4<|mr B) w2 (by rw[<-ae i];exact t) (kw.le 4 _) (by simp[bY]) (by omega) (by omega);have bo:=U bi;clear t L bi bc;go_wp2_with fail
 apply bl.mono;rintro an w3⟨rfl,u,ax⟩;have x:=rX (z<|G N) cB [] w3 (by rw[<-ae bq];simpa using u) (by intro ch hx;cases hx) (by simp) au av;have ba:=U ax;clear u ax bl;go_wp2_with fail
 apply x.mono;rintro an Q⟨rfl,bf,bb⟩;have K:Z az w Q:=by have h3:Z (λbs=>bs=z (G N)) w2 Q:=(fi ba).trans (fi bb)<|λ_ h=>.inl h;exact(ac.ci bo).trans h3<|λbs r=>.inr (by have:=ac.size;omega)
 have bg:∀W,W.heap=Q.heap->W.os=Q.os->W.tape=Q.tape->W.output=Q.output->cw bF 189 #[bC P (a+12) g O] W λan w'=>an=aO (dr cB)/\w'=W:=λW b c h3 d=>V W (K.of_heap<|by rw[b,c,h3,d]);have ad:=U K;clear bf bb x K;by_cases ao:O=g;(·(obtain rfl:RL=0:=by omega);(obtain rfl:d=O:=by omega);subst ao;clear C;(go_wp2_with fail);(go_quiet(first|(go_at_call 189;refine Calls.quiet_of_same (bg _ rfl rfl rfl rfl))));go_wp2;(go_ret3);refine⟨a+12,0,rfl,ah _,by omega,?_,?_,ad.of_heap rfl⟩;have h:=ae al;rw[ae i]at h;exact h;obtain rfl:=aP T;exact .inr ⟨P,a+12,0,rfl,ah _,λbs r=>absurd r<|gH bs⟩);(have q:¬(O-g=0):=by omega);have d2:¬(O=g):=ao;(go_wp2_with fail);(go_quiet(first|(go_at_call 189;refine Calls.quiet_of_same (bg _ rfl rfl rfl rfl))));go_wp2;(go_ret3);refine⟨a+12+g,O-g,rfl,by omega,by omega,?_,?_,ad.of_heap rfl⟩;have h:=ae al;rw[ae i]at h;exact h;have h:=ae bp;rw[ae i,C]at h;exact h
structure Xd(w0 w:Y)(rb:M)(l:cA)(o:aa)(m:M):Prop where
 own:w.ownsRow (z<|G w0) 164 4 o m (aE<|l.take m)
 rd:Rd w rb ((l.drop m).flatMap nM) bE
 ar:Z az w0 w
 Tw:z (G w0)<=rb
 wy:∀k,bV o=H k->rb<k
def EL(h:∀x∈e,x.Good):kw (e.flatMap nM):=by
 intro x a;obtain⟨c,b,a⟩:=lZ.1 a;exact Au (h c b) x a
def Du(cs k al:M)(l:cA)(bi:X)(w:Y)(hg:∀Q∈l,Q.Good)(hn:∀Q∈l,Q.bH=bi)(cb:0<=bi)(cc:bi<18446744073709551616)(h1:1<=y l)(h8:y l<=8)(hb:Bytes w (bC cs k (y<|iE bi l) al) (iE bi l)):cw bF 158 #[bC cs k (y<|iE bi l) al,aI bi] w λbk w'=>
 ∃a,bk=aO (dA #[a,aL bU])/\w'.ownsRow (z<|G w) 164 4 a (y l) (aE l)/\Z az w w':=by
 obtain⟨i0,ax,bf,bg,bh⟩:=cz nQ
 have ca:=py hg
 have bT:cs<z (G w):=hb.lt (by unfold iE;intro bk;have:=bS y bk;simp[bY]at this) cs rfl
 have K:=mU hb (by intro o e;cases e;exact bT)
 obtain⟨ac,hN⟩:∃ac,y l=ac:=⟨_,rfl⟩
 obtain⟨BL,an⟩:∃BL,y (iE bi l)=BL:=⟨_,rfl⟩
 rw[an]at K|-
 have cl:∀(Q:Bool)(w:Y),(Op.unary .not<|aL Q).run bF w=.ok (aL<|!Q) w:=λ_ _=>rfl
 obtain⟨B,HG,bm⟩:=dB hN hg hn
 rw[hN]at h1 h8
 clear hb hg hn an hN
 go_in
 go_wp2_with fail
 apply K.mono
 rintro bk w1⟨rfl,t,L⟩
 have bd:Z az w w1:=by rw[L];exact(Z.refl _ w).alloc _
 have cn:z (G w)<z (G w1):=by rw[L];simp
 have r:=EL HG
 have ck:y (l.flatMap nM)<=280:=by rw[ae B]at ca;omega
 have ba:=Am (z<|G w) bi ((ac:X)::l.flatMap nM) w1 (by have h:=t;unfold iE at h;rw[ae B]at h;exact h) (by intro Q O;rcases aA.1 O with rfl|O;omega;exact r Q O) (by rw[ay];omega) cb cc
 have bt:=U bd
 clear t L bd K
 go_wp2_with fail
 apply ba.mono
 rintro bk w2⟨rfl,u,C⟩
 have au:=WF (z<|G w) (ac:X) w2 u r (by omega) (by omega)<|by omega
 have co:=C.size
 have bn:=U C
 clear u C ba
 go_wp2_with fail
 apply au.mono
 rintro bk w3⟨rfl,v,D⟩
 have bs:=U v
 have cp:=D.size
 have bo:=U D
 clear v D au
 have e1:¬((ac:X)<1):=by omega
 have e2:¬((8:X)<(ac:X)):=by omega
 go_wp2_with(first
  |(at_make;go_loud(refine lG _ rfl _ _ 101 rfl (z (G w)) 164 i0 wP 4 underlying101 ax bf bg _ _ _ ac rfl rfl (by omega) (by rw[bh];omega) (by unfold maxLen;omega) (by omega) ?_;intro w4 s p;have bp:=U s;have A:=U p;clear s p)))
 have cB:=A.size
 have hA0:Xd w w4 (z<|G w) l (bC (z<|G w3) 0 0 ac) 0:=by
  have a:Z (λo=>o=z (G w)) w1 w3:=(fi bn).trans (fi bo)<|λ_ h=>.inl h;have b:Z az w w3:=bt.trans a (λo e=>.inr<|by omega);refine⟨bp,bs.laid A,b.ci (Z.dM (S:=az) A<|by simp),ah _,?_⟩;intro o e;simp[bV]at e;omega
 have bl:=U hA0
 clear hA0
 go_loopw [8,28] (λo i wr=>∃m:M,m<=ac/\i=tD m/\Xd w wr (z<|G w) l o m) (λ_ i _=>ac-(intOf i).toNat)
 case atStart=>exact⟨0,bw _,rfl,bl⟩
 case round=>
  obtain⟨m,hm,rfl,d⟩:=hrel;have c:=d.own;obtain⟨ox,oc,ho⟩:=aB c;have cx:=d.ar.size;have cm:=d.rd.lt;have HA:=U d;by_cases bb:m<ac
  .have g:m<y l:=by rw[ae B];exact bb
   have n:=HG l[m]<|ap g;have ao:=bm l[m]<|ap g;have f:=d.rd;rw[bD g,dH]at f;have q:kw ((l.drop<|m+1).flatMap nM):=EL<|λQ O=>HG Q<|dl O;have F:y ((l.drop<|m+1).flatMap nM)<=280:=by
    have N:=py (l:=l.drop<|m+1)<|λQ O=>HG Q<|dl O;have h3:y (l.drop<|m+1)<=8:=by simp;rw[ae B];omega
    omega
   have cu:=Ce n;have b:=Gj (z<|G w) ((l.drop<|m+1).flatMap nM) wr f ((Au n).append q) (by simp only[af];omega) n;have bv:=U (show aE (l.take m)++aE [l[m]]=aE (l.take<|m+1)by rw[<-fN,ai g]);clear d c f q F n;generalize l[m]=Q at*;obtain⟨W,xv,V,T⟩:=Q;simp only at b ao;subst ao;unfold E.value at b;simp only at b;subst ho;go_wp2_with fail
   apply b.mono;rintro bk P⟨rfl,bc,av⟩;have i:Z (λo=>o=z (G w)) wr P:=fi av;have j:=aR (aR (i.own HA.own (λo e c=>by have:=HA.wy o e;omega))<|aq #[J W,J xv,aL V,aI T] 164)<|aq #[J W,J xv,aL V,aI T] 164;have cv:=i.size;obtain⟨ad,bu,br⟩:=dB j i bc;clear bc av j i;go_wp2_with(first
    |(at_builtin;go_loud(refine bQ _ rfl (.tmp 39) (.tmp 41) 101 rfl (z (G w)) 164 i0 wP 4 48 underlying101 ax bf bg bh rfl (by decide) (.slice ox m oc) m (aE (l.take m)) rfl ad (R (z (G P)+1) 0) 1 1 (aE [⟨W,xv,V,T⟩]) rfl rfl (yz ⟨W,xv,V,T⟩ _ (by simp)) (Bn _) (by omega) (by omega) (by simp;omega) ?_;intro o2 w6 a x;have bq:=U a;have bx:=U x;clear a x)))
   go_roundw;case rel=>
    refine⟨m+1,bb,by go_num,?_⟩;have d:=ae HA;have i:=ae bu;have N:=ae bx;have a:=ae bq;have cd:=d.own.lt;have cj:Z (λo=>bV (I ox m oc)=H o) P w6:=(((Z.refl (λo=>bV (I ox m oc)=H o) P).alloc _).alloc _).trans (Z.fy N)<|λo e=>.inl e;refine⟨by rw[<-ae bv];exact a,?_,(d.ar.trans i<|λo e=>.inr<|by omega).trans cj<|λo e=>.inr (cd o e).1,d.Tw,?_⟩
    .have hr:=ae br;have ce:=hr.laid<|dt P (aq #[J W,J xv,aL V,aI T] 164) none;have ch:=ce.laid<|dt _ (aq #[J W,J xv,aL V,aI T] 164) none;exact ch.wrote N d.wy
    .intro o e;rcases N.uc with ce|⟨ch,ce,hy⟩
     .exact d.wy o<|ce.symm.trans e
     .rw[ce]at e;cases e;simp at hy;omega
   case measure=>simp[intOf];omega
  .have j:m=ac:=by omega
   subst j;have g:l.take m=l:=by rw[<-ae B,bN]
   have b:l.drop m=[]:=by rw[<-ae B,gm]
   have f:=d.rd;rw[b]at f;have a:=xO f (by simp);simp only[uG,qF,nr,ug]at a;rw[ho,g]at c;have n:=U c;have i:=U d.ar;clear d c f b g;subst ho;go_wp2_with fail
   apply a.mono;rintro bk P⟨rfl,q⟩;subst P;go_wp2;go_ret2
   exact⟨_,rfl,by rw[ae B];exact n,i⟩
def lO:X->dW->eK
 |_,[]=>[]
 |f,l::r=>CO f l++lO (f+1) r
structure Fp(f:X)(ls:dW):Prop where
 jd:∀l∈ls,∀x∈l,x.Good
 num:∀i(hi:i<y ls),∀x∈ls[i],x.bH=f+i
 one:∀l∈ls,1<=y l/\y l<=8
 sum:(ls.map y).sum<32
 f0:0<=f
 f1:f+y ls<18446744073709551616
def Cd{n:X}(h:∀x∈e,x.Good)(a:y e<=8):y (CO n e)<=400:=by
 have:=py h;unfold CO iE;simp only[af,gu,bY,ay];omega
def tT{f:X}{lsqq:dW}(h:∀l∈lsqq,(∀x∈l,x.Good)/\y l<=8):y (lO f lsqq)<=400*y lsqq:=by
 induction lsqq generalizing f with
 |nil=>simp[lO]
 |cons l r b=>
  have a:=Cd (n:=f) (h l<|by simp).1 (h l<|by simp).2;have c:=b (f:=f+1) (λx a=>h x<|by simp[a]);rw[lO,af,ay];omega
def Dx(h:∀l∈k,1<=y l):y k<=(k.map y).sum:=by
 induction k with
 |nil=>simp
 |cons l r b=>
  have a:=h l (by simp);have c:=b (λx a=>h x<|by simp[a]);simp only[ay,aX,iL];omega
def OZ(w:Y)(b:M)(c:iV)(a:dW):Prop:=y c=y a/\∀i(d:i<y c)(e:i<y a),w.ownsRow b 164 4 c[i] (y a[i])<|aE a[i]
def RP:(prog.info? 101).map (λi=>(i.zero,i.size,i.bytes))=H (H aK,1,24):=by kernel_rfl
structure Mx(w0 w:Y)(f:X)(ls:dW)(b zqq c m:M)(o:aa)(vs:iV):Prop where
 box:w.heap[z (G w0)+1]?=H (aq #[o,aL bE] 199 (0,0))
 Kz:w.heap[z<|G w0]?=H (aq #[aK,aL bE] 199 (0,0))
 own:w.ownsRow (z (G w0)+2) 101 1 o m vs
 XU:OZ w (z (G w0)+2) vs (ls.take m)
 bytes:Bytes w0 (bC b zqq (y<|lO (f+m)<|ls.drop m) c) (lO (f+m)<|ls.drop m)
 cap:y (lO (f+m)<|ls.drop m)<=c/\c<=9223372036854775807
 ar:Z az w0 w
def Fx(h:b<y k):((k.take<|b+1).map y).sum=((k.take b).map y).sum+y k[b]:=by
 rw[ai h,aM,gl];simp
def Ka(a:dW)(m:M):((a.take m).map y).sum<=(a.map y).sum:=by
 have h:=bS (λl=>(l.map y).sum)<|bW m a;simp only[aM,gl]at h;omega
def Mx.step{c O w1 w2:Y}{W N P z' c' g:M}{v o2 bv:aa}{n:Obj}(w:Mx c O m k W N P g v x)(hm:g<y k)(p:Z az O w1)(hb:w1.ownsRow (z<|G O) 164 4 bv (y k[g]) (aE k[g]))(Q:w2.ownsRow (z (G c)+2) 101 1 o2 (g+1) (x++[bv]))(hw:eR (ct w1 n) w2 v o2)(D:Bytes c (bC W z' (y<|lO (m+(g+1:M))<|k.drop<|g+1) c') (lO (m+(g+1:M))<|k.drop<|g+1))(E:y (lO (m+(g+1:M))<|k.drop<|g+1)<=c'/\c'<=9223372036854775807):Mx c (bZ w2 (R (z (G c)+1) 0) o2) m k W z' c' (g+1) o2 (x++[bv])/\aS w2 (R (z (G c)+1) 0)=H v/\w2.frozen? (R (z (G c)+1) 0)=bE:=by
 have hz:=aj w.box;have al:=w.ar.size;have i:=aF w.own;have q:Z (λb=>bV v=H b) w1 w2:=((Z.refl (λb=>bV v=H b) w1).alloc n).trans (Z.fy hw)<|λ_ a=>.inl a;have A:Z (λb=>bV v=H b) O w2:=(p.mono (T:=λb=>bV v=H b) cG).trans q<|λ_ a=>.inl a;have f:∀b,bV v=H b->∃j,O.heap[b]?=H (aq j 101 (0,0)):=λb a=>fD w.own a;have h:w2.heap[z (G c)+1]?=H (aq #[v,aL bE] 199 (0,0)):=(A.block _ hz (λad=>by have:=(i _ ad).1;omega)).trans w.box;have d:Z (λb=>b=z (G c)+1) w2 (bZ w2 (R (z (G c)+1) 0) o2):=(Z.refl _ w2).setCell _ 0 _<|.inl rfl;refine⟨⟨?_,?_,?_,?_,D,E,?_⟩,by rw[bR h];rfl,dJ h⟩;have:=aQ (i:=0) (u:=o2) h;simpa using this;exact(ir _<|by omega).trans<|(A.block _ (aj w.Kz) (λad=>by have:=(i _ ad).1;omega)).trans w.Kz;exact d.own Q (λb a P=>by have:=(aF Q b a).1;omega);obtain⟨v1,v2⟩:=w.XU;(have s:y x=g:=by rw[v1];simp;omega);refine⟨by simp[s];omega,λl h1 h2=>?_⟩;(have t:∀(V:Y)(ao:aa)(an:M)(L:iV),V.ownsRow (z (G c)+2) 164 4 ao an L->Z (λb=>bV v=H b) V w2->(∀b,bV v=H b->∃j,V.heap[b]?=H (aq j 101 (0,0)))->(bZ w2 (R (z (G c)+1) 0) o2).ownsRow (z (G c)+2) 164 4 ao an L:=by intro V ao an L S F K;have r:=F.own S (λb a P=>by obtain⟨j,e⟩:=K b P;obtain⟨ac,o⟩:=fD S a;exact iq e o (by decide) rfl);exact d.own r (λb a P=>by have:=(aF r b a).1;omega));rcases dE l g with hi|hi;have B:(x++[bv])[l]=x[l]'(by omega):=oq (by omega);(have C:(k.take<|g+1)[l]=(k.take g)[l]'(by simp;omega):=by rw[gq,gq]);rw[B,C];exact t O _ _ _ (v2 l (by omega) (by simp;omega)) A f;(have o:l=g:=by simp at h2;omega);subst o;(have B:(x++[bv])[l]=bv:=by rw[nR<|by omega];simp[s]);have C:(k.take<|l+1)[l]=k[l]:=gq;rw[B,C];refine t w1 _ _ _ (eS hb<|by omega) q<|λb a=>?_;obtain⟨j,e⟩:=f b a;exact⟨j,(p.block b (aj e) id).trans e⟩;exact(w.ar.trans A<|λb a=>.inr (by have:=(i b a).1;omega)).trans d<|λb a=>.inr<|by omega
def Kw{c:Func}{p u:Tmp}(j:c.results=#[.cell p 199,.tmp u])(a:Array aa)(w:Y)(g:M)(x:Option Addr)(n k:M)(e:Bool)(t:TypeId)(d:M×M)(i:a.getD p iC=aw g)(f:w.heap[g]?=H (aq #[I x n k,aL e] t d)):(results c a).run bF w=.ok (dA #[eD #[I x n k,aL e],a.getD u iC]) w:=by
 have b:a[p]?.getD iC=aw g:=by simpa using i
 have h:=mO (P:=bF) w g t 199 #[I x n k,aL e] d _ f underlying199 rfl (by kernel_rfl);simp[results,j,b,asAddr,h,Result.andThen]
def Bytes.back(n:Bytes f (bC b c g l) o)(j:Z az a f)(h:b<z (G a)):Bytes a (bC b c g l) o:=by
 rcases n with⟨e,_⟩|⟨k,p,m,e,d,i⟩;cases e;cases e;exact .inr ⟨_,_,_,rfl,d,λk e=>(cH (w:=a)<|j.block _ h id).symm.trans<|i k e⟩
def Tm:aa->M
 | .slice _ n _=>n
 |_=>0
def Qv(x:Option Addr)(n c:M):Tm (I x n c)=n:=rfl
def QR(f:X)(a:dW)(m:M)(h:m<y a):lO (f+(m:M)) (a.drop m)=iD (le 4 (y<|iE (f+(m:M)) a[m])++le 4 (mr<|iE (f+(m:M)) a[m]))++iE (f+(m:M)) a[m]++lO (f+((m+1:M):M)) (a.drop<|m+1):=by
 rw[bD h,lO];unfold CO;have:f+(m:M)+1=f+((m+1:M):X):=by omega
 rw[this]
def IN(bf d n:M)(hT:Steps a)(hP:Fp m k)(P:y (lO m k)<=n)(bt:n<=9223372036854775807)(N:bf<z (G a))(hb:Bytes a (bC bf d (y<|lO m k) n) (lO m k)):cw bF 99 #[bC bf d (y<|lO m k) n,aI m] a λcd w'=>
 ∃dT bd F,cd=aO (dA #[eD #[I dT (y k) bd,aL bE],aL bU])/\w'.ownsRow (z (G a)+2) 101 1 (I dT (y k) bd) (y k) F/\OZ w' (z (G a)+2) F k/\Z az a w':=by
 obtain⟨i0,cv,cM,cT,db⟩:=cz RP
 have dv:∀(dT:Bool)(a:Y),(Op.unary .not<|aL dT).run bF a=.ok (aL<|!dT) a:=λ_ _=>rfl
 have ds:y k<32:=Nat.lt_of_le_of_lt (Dx<|λl S=>(hP.one l S).1) hP.sum
 have ec:=hP.f0
 have ed:=hP.f1
 obtain⟨RL,an⟩:∃RL,y (lO m k)=RL:=⟨_,rfl⟩
 have hA0:Mx a (ct (ct a<|aq #[aK,aL bE] 199)<|aq #[aK,aL bE] 199) m k bf d n 0 aK []:=by
  refine⟨aC _ (by simp),(fX _<|by simp).trans<|aC _ rfl,bJ _ _ _ _,⟨rfl,λce h1=>absurd h1<|gH ce⟩,?_,?_,((Z.refl _ a).alloc _).alloc _⟩
  .simpa using hb
  .simpa using⟨P,bt⟩
 obtain⟨bh,HT,W,co⟩:=gx hA0 hT hP an
 rw[an]
 clear hA0 hT hP hb P bt an
 go_in
 go_wp2
 go_loopw [0,7] (λbv b wr=>∃j e bg ej F,j<=y k/\bv=bC bf e (y<|lO (m+(j:M))<|k.drop j) bg/\b=am (((k.take j).map y).sum:M)/\Mx a wr m k bf e bg j ej F) (λbv _ _=>Tm bv)
 case atStart=>exact⟨0,d,n,_,_,bw _,by rw[<-ae co];simp,rfl,bh⟩
 case round=>
  obtain⟨j,e,bg,ej,F,hm,rfl,rfl,c⟩:=hrel;have bc:∀al,Z az wr al->Steps al:=λal hW=>HT.below ((c.ar.ci hW).below (ah _) cG) HT.lt;obtain⟨s,r,ho⟩:=aB c.own;have v:=cellAt c.box 0 rfl;have eb:=cellAt c.box 1 rfl;have ef:=c.ar.size;have cc:=aj c.box;by_cases p:j<y k
  .have T:=ap p;have B:=W.jd _ T;have C:=W.num j p;have D:=W.one _ T;have E:=Fx p;have bx:=Ka k<|j+1;have cE:=W.sum;have bu:=QR m k j p;have o:=c.bytes;have g:=c.cap;have bb:=tT (f:=m+((j+1:M):X)) (lsqq:=k.drop<|j+1)<|λl S=>⟨W.jd l<|dl S,(W.one l<|dl S).2⟩;have cu:y (k.drop<|j+1)<=32:=by simp;omega
   rw[bu]at o g|-;have HA:=U c;obtain⟨l,S⟩:∃l,k[j]=l:=⟨_,rfl⟩;rw[S]at B C D E o g|-;have ck:=U S;obtain⟨q,hq⟩:∃q:X,m+(j:M)=q:=⟨_,rfl⟩;rw[hq]at C o g|-;have cx:0<=q:=by omega
   have cB:q<18446744073709551616:=by omega
   obtain⟨b,au⟩:∃b,lO (m+((j+1:M):X)) (k.drop<|j+1)=b:=⟨_,rfl⟩;rw[au]at o g bb|-;have cs:y (iE q l)<=1000:=by have:=py B;unfold iE;rw[af,ay,bY];omega
   have L:0<y (iE q l):=by unfold iE;rw[af,bY];omega
   have t:y (iD (le 4 (y<|iE q l)++le 4 (mr<|iE q l))++iE q l++b)=12+y (iE q l)+y b:=by simp only[af,gu,bY]
   have O:Bytes wr (bC bf e (y<|iD (le 4 (y<|iE q l)++le 4 (mr<|iE q l))++iE q l++b) bg) (iD (le 4 (y<|iE q l)++le 4 (mr<|iE q l))++iE q l++b):=o.below (c.ar.below (ah _) cG) (λbd Q=>by cases Q;exact N);have hcut:=Ln bf e bg _ (iE q l) b (w:=wr) (bc wr<|Z.refl _ _) L (by omega) (by omega) t g.1 g.2 O;have i:=c.own;rw[ho]at i v;have cn:=U i;obtain⟨LL,bp⟩:∃LL,y (iD (le 4 (y<|iE q l)++le 4 (mr<|iE q l))++iE q l++b)=LL:=⟨_,rfl⟩;rw[bp]at hcut t|-;obtain⟨K,A⟩:∃K,y l=K:=⟨_,rfl⟩;obtain⟨BL,x⟩:∃BL,y (iE q l)=BL:=⟨_,rfl⟩;have bn:=U<|λ(al:Y)(hW:Z az wr al)(av:Bytes al (bC bf (e+12) BL<|bg-12) (iE q l))=>Du bf (e+12) (bg-12) l q al B C cx cB D.1 D.2 (by rw[x];exact av);have V:∀al,Z az wr al->Bytes al (bC bf (e+12) BL<|bg-12) (iE q l)->cw bF 158 #[bC bf (e+12) BL<|bg-12,aI q] al λcd w'=>∃a,cd=aO (dA #[a,aL bU])/\w'.ownsRow (z<|G al) 164 4 a K (aE l)/\Z az al w':=by
    intro al hW av;have h:=bn al hW av;rw[x,A]at h;exact h
   have bo:=U V;have cl:=U A;rw[x]at hcut t;obtain⟨RN,ao⟩:∃RN,y b=RN:=⟨_,rfl⟩;rw[ao]at hcut t bb;rw[A]at E D;obtain⟨S0,bq⟩:∃S0,((k.take j).map y).sum=S0:=⟨_,rfl⟩;rw[bq]at E|-;obtain⟨cp,ad,ac,HQ⟩:=gx E au ao hq;have dk:(0:X)<(LL:X):=by omega
   have a1:IntKind.u64.wrap (j:X)=j:=by rw[gX];omega
   have a2:IntKind.u64.wrap q=q:=by rw[gX];omega
   have a3:IntKind.i64.wrap ((S0:X)+(K:X))=(S0:X)+K:=by rw[bO];omega
   have a4:¬((32:X)<=(S0:X)+(K:X)):=by omega
   have a5:m+(j:X)=q:=hq;have he:∀(b:Addr)(n bd:M)(a:Y),(binOp .eql 126 (I (H b) n bd) aK).run bF a=.ok (aL bE) a:=λ_ _ _ _=>rfl;have bi:=U (show RN<LL by omega);clear bc c B C bx cE bu o g bb cu S hq au cs L t O bp A x V i ao bq bn;subst ho;go_wp2_with fail
   apply hcut.mono;rintro cd w1⟨z',c',rfl,g1,g2,br,bs,w⟩;have dm:aS w1 (R (z (G a)+1) 0)=H (I s j r):=w.cell v id cc;have ca:=bo w1 w<|br.below (w.below (ah _) cG) (λbd Q=>by cases Q;show bf<z (G wr);omega);have bl:=U w;have cj:=U bs;clear br bs w hcut;go_wp2_with fail
   apply ca.mono;rintro cd w2⟨bv,rfl,ba,bT⟩;obtain⟨dd,dc,rfl⟩:=aB ba;have f:Z az wr w2:=bl.ci bT;have dn:aS w2 (R (z (G a)+1) 0)=H (I s j r):=f.cell v id cc;have dx:=f.size;obtain⟨bk,cm,bm⟩:=dB (f.own cn<|λ_ _ bg=>bg) (eS ba bl.size) f;clear ba bT f ca;go_wp2_with(first
    |(at_builtin;go_loud(refine bQ _ rfl (.tmp 50) (.tmp 52) 197 rfl (z (G a)+2) 101 i0 aK 1 24 underlying197 cv cM cT db rfl (by decide) (.slice s j r) j F rfl (aR bk _) (R (z (G w2)) 0) 1 1 [.slice dd K dc] rfl rfl (pH _ _ _) (by simp[Value.oneCell']) (by omega) (by omega) (by simp;omega) ?_;intro o2 w3 ax cb;obtain⟨hA3,ea,ee⟩:=HA.step (z':=z') (c':=c') (w1:=w2) (w2:=w3) (o2:=o2) (bv:=.slice dd K dc) p bm (by rw[ae ck];have h:=ae cm;have cd:=ae cl;rw[<-cd]at h;rw[cd];rw[cd]at h;exact h) ax cb (by rw[ae ad];have hh:=cj.back HA.ar N;rw[<-ae ac]at hh;exact hh) (by rw[ae ad,ae ac];exact⟨g1,g2⟩);obtain⟨ei,eg,rfl⟩:=aB ax;have ch:=U hA3;clear ax cb hA3)))
   go_roundw;case rel=>exact⟨j+1,z',c',_,_,p,by rw[ae ad,ae ac],by rw[ae cp];go_num,ch⟩
   case measure=>
    simp only[Qv];exact bi
  .have i:j=y k:=by omega
   have w:k.drop j=[]:=by rw[i,gm]
   have x:k.take j=k:=by rw[i,bN]
   have D:z (G a)<z (G wr):=aj c.Kz;have T:=cellAt c.Kz 0 rfl;have V:=cellAt c.Kz 1 rfl;have r2:=dJ (i:=0) c.Kz;have r3:=dJ (i:=1) c.Kz;have f:=c.own;have b:=c.XU;have A:=c.ar;have o:=c.Kz;rw[ho]at f v;rw[x]at b;rw[i]at f v;rw[w];show Code.wp _ _ _ _ _;have t:=U (show(bZ (bZ wr (R (z<|G a) 0)<|I s (y k) r) (R (z<|G a) 1)<|aL bE).heap[z<|G a]?=H (aq #[I s (y k) r,aL bE] 199 (0,0))/\(bZ (bZ wr (R (z<|G a) 0)<|I s (y k) r) (R (z<|G a) 1)<|aL bE).ownsRow (z (G a)+2) 101 1 (I s (y k) r) (y k) F/\OZ (bZ (bZ wr (R (z<|G a) 0)<|I s (y k) r) (R (z<|G a) 1)<|aL bE) (z (G a)+2) F k/\Z az a (bZ (bZ wr (R (z<|G a) 0)<|I s (y k) r) (R (z<|G a) 1)<|aL bE)from by
    have g:Z (λbd=>bd=z (G a)) wr (bZ (bZ wr (R (z (G a)) 0) (I s (y k) r)) (R (z (G a)) 1) (aL bE)):=((Z.refl (λbd=>bd=z (G a)) wr).setCell (z (G a)) 0 _ (.inl rfl)).setCell (z (G a)) 1 _ (.inl rfl);refine⟨?_,g.own f (λbd Q bg=>by have:=(aF f bd Q).1;omega),⟨b.1,λce h1 B=>g.own (b.2 ce h1 B) (λbd Q bg=>by have:=(aF (b.2 ce h1 B) bd Q).1;omega)⟩,A.trans g (λbd Q=>.inr (by omega))⟩;have B:=aQ (i:=1) (u:=aL bE) (aQ (i:=0) (u:=I s (y k) r) o);simpa using B)
   subst i;clear c bc f b A o w x bh W;subst ho;have C:y (lO (m+(y k:M)) [])=0:=rfl;rw[C];go_wp2;obtain⟨E,K,L,O⟩:=ae t;refine cI (Kw rfl _ _ (z<|G a) s (y k) r bE _ _ rfl E) rfl ?_;exact⟨s,r,F,rfl,K,L,O⟩
def Vc(h:cJ a b j)(cv:∀f∈j.files,y f.bytes<=1099511627776)(L:((vw j.files).map (·.1)).Nodup):cw bF 25 #[.pointer<|H ⟨b,0,none⟩] a λcl w'=>∃g K',cl=.returned (.pointer<|H ⟨g,0,none⟩)/\cJ w' g K'/\(vw K'.files).Perm (vw j.files)/\K'.eO=[]/\(∀k,K'.aZ g k->z (G a)<=k)/\Z (λ_=>False) a w':=by
 have en:aS a ⟨b,0,none⟩=H (.map<|H j.nb):=by rw[bR h.iH];rfl
 have eo:aS a ⟨b,3,none⟩=H (.int .i64 1099511627776):=by rw[bR h.iH];rfl
 have cp:=Cj a;obtain⟨HD,HB,HN⟩:=dB h cv L;clear h cv L;go_in
 go_wp2_with fail
 apply cp.mono;rintro cl w1⟨rfl,r,cu⟩;have an:Z (λ_=>False) a w1:=Z.aT cu;have ad:=(ae HD).ar an<|λ_ _=>id;have fL:aS w1 ⟨b,0,none⟩=H (.map<|H j.nb):=by rw[bR ad.iH];rfl
 obtain⟨g,bl⟩:∃g,z (G a)+2=g:=⟨_,rfl⟩;rw[bl]at r|-;obtain⟨K1,D⟩:∃K1,rr (z<|G a)=K1:=⟨_,rfl⟩;rw[D]at r;have dn:K1.eO=[]:=by rw[<-D];rfl
 have cB:K1.files=[]:=by rw[<-D];rfl
 have bc:∀k,K1.aZ g k->z (G a)<=k:=by intro k o;rw[<-D,<-bl]at o;rcases o with d|d|d|d|⟨hb,hx,d⟩|⟨hd,hg,d⟩;omega;have:k=z (G a):=d;omega;have:k=z (G a)+1:=d;omega;cases d;cases hx;cases hg
 obtain⟨cd,gj,x,cj,ax,ej,ee⟩:=ww ad.now ad r an bc dn cB;have fl:=an.size;clear cp cu an ad r bc dn cB D bl en eo
 go_wp2_with(first
  |(at_range;refine ui _ rfl _ 70 rfl 9 125 underlying70 j.nb _ rfl (ae cd) ?_;intro w0 bd db fd;have bT:=U bd;have B:=U db;clear bd db))
 go_frame
 obtain⟨rb,ea⟩:∃rb,z (G w1)=rb:=⟨_,rfl⟩;rw[ea]at bT|-;have ge:z (G a)<=rb:=by omega
 obtain⟨bt,el,bx⟩:=dB ((ae x).ar (Z.dM (S:=λ_=>False) (ae B)<|by simp)<|λ_ _=>id) ((ae cj).ci<|Z.dM (S:=λ_=>False) (ae B)<|by simp) (show∀k,K1.aZ g k->z (G a)<=k/\k≠rb fromλk o=>⟨(ae ax) k o,by have:=(ae x).lt k o;omega⟩);clear x cj ax B fl fd ea;go_loopw [4] (λ_ wr=>∃(fu:cr df)(K':DK),(vw K'.files++vw fu).Perm (vw j.files)/\K'.eO=[]/\cJ wr g K'/\(∀k,K'.aZ g k->z (G a)<=k/\k≠rb)/\qt wr j.nb rb (j.files.map df.nm) (fu.map df.nm)/\(∀f∈fu,f∈j.files)/\Z (λ_=>False) a wr) (λ_ wr=>wr.rangeLeft j.nb rb)
 (case atStart=>refine⟨j.files,K1,?_,ae ej,ae bt,ae bx,ae bT,λ_ d=>d,ae el⟩;rw[ae ee];exact np _)
 case round=>
  obtain⟨fu,K',hp,hm,cx,cT,dk,hL,ht⟩:=hrel;obtain⟨cb,HT,HP,bu,m,HL,HM⟩:=ww dk ht hp cx cT hL hm;clear dk ht hp cx cT hL hm;go_wp2_with(first
   |(at_next;refine vD _ rfl _ rfl j.nb rb _ _ rfl (ae cb) ?_ ?_))
  .intro c;obtain rfl:fu=[]:=by simpa using c
   go_wp2;go_ret;refine⟨g,rfl,K',ae bu,?_,ae HM,λk o=>((ae m) k o).1,ae HT⟩;have:=ae HP;simpa[vw]using this
  .intro ha pk pv gf n ed bf dc fe gt;obtain⟨gg,f,gi,rfl,rfl,dT,rfl⟩:=Ek ed;simp only[df.nm,oM,gV]at dT;obtain⟨rfl,rfl⟩:=dT;have br:Z (λk=>k=rb) wr n:=fi dc;have V:Z (λ_=>False) a n:=(ae HT).trans br (λhb hx=>.inr<|by omega);have s:=(ae bu).ar br<|λk o cl=>((ae m) k o).2 cl;have cE:f∈j.files:=(ae HL) f (by simp);have cM:=(ae HD).files f cE;have l:=cM.ar V id<|λ_ _ d=>d;have bm:=Hn (v:=f.data) (bs:=f.bytes) (w:=n.drew) (l.2.1.bytes.of_heap rfl) ((ae HB) f cE)<|λk o=>((aF l.2.1 k o).2:k<z (G n));have ey:=aj l.1;have k0:aS n.drew ⟨g,0,none⟩=H (.map<|H K'.nb):=by rw[bA,bR s.iH];rfl
   have kd:aS n.drew ⟨f.pE,0,none⟩=H f.data:=by rw[bA,bR l.1];rfl
   obtain⟨fx,fv,es⟩:=aB l.2.1;have bg:=aj s.iH;obtain⟨c,C,A,ef⟩:=gx s V bf l;clear ed bf dc fe br V s cM l;rw[es]at kd bm;go_wp2_with fail
   rename_i QQ KK co;refine cg (λe=>aS e ⟨g,0,none⟩=H (.map<|H K'.nb)/\aS e ⟨f.pE,0,none⟩=H (.slice fx (y f.bytes) fv)) 17 (by kernel_rfl) ?_;have bi:=And.intro k0 kd;refine cQ 0 ?_;iterate 9 (refine wV (v:=?_) bi rfl (by kernel_rfl) (λ_ _ _ h=>h) (Or.inl ⟨by rfl,?_⟩) ?_;rotate_left;(focus(rintro e⟨z0,z1⟩;go_simp;try with_reducible rfl));try simp only[Act.put,Nat.reduceAdd,dZ,gy,fT])
   apply eh;refine cQ 10 ?_;iterate 5 (refine wV (v:=?_) bi rfl (by kernel_rfl) (λ_ _ _ h=>h) (Or.inl ⟨by rfl,?_⟩) ?_;rotate_left;(focus(rintro e⟨z0,z1⟩;go_simp;try with_reducible rfl));try simp only[Act.put,Nat.reduceAdd,dZ,gy,fT])
   apply eh;refine aJ (i:=9) rfl rfl (by kernel_rfl) ?_;intro K9 cn;go_simp;apply bm.mono;rintro cl q⟨v3,rfl,bq,bk⟩;obtain⟨x3,c3,fk⟩:=aB bq;subst fk;have P:Z (λ_=>False) n q:=(bX (λ_=>False) n).ci<|Z.aT (S:=λ_=>False) bk;have E:aS q ⟨g,0,none⟩=H (.map<|H K'.nb)/\aS q ⟨f.pE,0,none⟩=H (.slice fx (y f.bytes) fv):=⟨P.cell (by rw[bA]at k0;exact k0) id bg,P.cell (by rw[bA]at kd;exact kd) id ey⟩;refine cn _ _ (λ_=>E) ?_;try simp only[Act.put,dZ,gy,fT]
   refine lJ (i:=15) (v:=?_) rfl rfl (by kernel_rfl) (by kernel_rfl) (by kernel_rfl) (by kernel_rfl) (λ_ _ _ h=>h) (Or.inl ⟨by rfl,?_⟩) E ?_;rotate_left
   .rintro e⟨z0,z1⟩;go_simp;try with_reducible rfl
   try simp only[Act.put,dZ,gy,fT]
   refine aJ (i:=16) rfl rfl (by kernel_rfl) ?_;intro gn ba;go_simp;have eb:=P.size;refine ba _ _ (λ_=>⟨by rw[fp<|by omega];exact E.1,by rw[fp<|by omega];exact E.2⟩) ?_;try simp only[Act.put,dZ,gy,fT]
   obtain⟨W4,F⟩:∃W4,ct q (.cells #[.slice x3 (y f.bytes) c3,.int .i64<|y f.bytes] 129)=W4:=⟨_,rfl⟩;rw[F];have ao:Z (λ_=>False) n W4:=by rw[<-F];exact P.alloc _
   have dv:W4.heap[z<|G q]?=H (.cells #[.slice x3 (y f.bytes) c3,.int .i64<|y f.bytes] 129 (0,0)):=by rw[<-F];exact aC _ rfl
   have dx:W4.ownsRow (z<|G n.drew) 5 1 (.slice x3 (y f.bytes) c3) (y f.bytes) (f.bytes.map<|Value.int .u8):=by rw[<-F];exact aR bq _
   have K:=(ae c).now.ar ao id;refine aJ (i:=17) rfl rfl (by kernel_rfl) ?_;intro gr bb;try simp only[dp,cD,cN]
   refine Af (.tmp 24) (.tmp 25) (.tmp 37) 70 rfl 9 125 underlying70 underlying9 K'.nb _ rfl K f.name (.pointer<|H ⟨z<|G q,0,none⟩) rfl rfl ?_;intro W al bo ec;refine bb _ _ wu ?_;refine cO (by kernel_rfl) ?_ _;show KK _ _;apply co;have N:f.name∉K'.files.map df.name:=by
    have hp:=(ae HP).map<|λ(hb:ab×eK)=>hb.1;have L:=hp.nodup_iff.2<|ae HN;rw[aM,jt]at L;intro hc;refine L.2.2 f.name ?_ f.name ?_ rfl
    .simpa[vw]using hc
    .simp[vw]
   have t:=LN N;rw[DT t]at al;have au:Z (λk=>k=K'.nb) n W:=(ao.mono (T:=λk=>k=K'.nb) cG).trans (fi bo)<|λ_ d=>.inl d;have eq:g≠K'.nb:=qW (ae c).now (ae c).iH;have gs:g≠K'.sb:=qW (ae c).safe (ae c).iH;have bp:W.heap[g]?=n.heap[g]?:=au.block g bg eq;have y0:aS W.drew ⟨g,0,none⟩=H (.map<|H K'.nb):=by rw[bA,bR<|bp.trans (ae c).iH];rfl
   have y1:aS W.drew ⟨g,1,none⟩=H (.map<|H K'.sb):=by rw[bA,bR<|bp.trans (ae c).iH];rfl
   have O:gF W K'.sb K'.sm:=(ae c).safe.ar au<|λcl=>(ae c).ne cl.symm;have dm:=LM (v:=.pointer<|H ⟨z<|G q,0,none⟩) t;have bh:gF W.drew K'.nb (K'.files.map df.nm++[(f.name,.pointer<|H ⟨z<|G q,0,none⟩)]):=al.ar (bX (λ_=>False) W) id;have u:gF W.drew K'.sb K'.sm:=O.ar (bX (λ_=>False) W) id;obtain⟨j0,et,ex,eu,ev⟩:=cz tX;clear eu ev;obtain⟨em,cc,ac,ek,eg⟩:=jR au dv dx al bo;have ch:=U u;obtain⟨fs,ei,fn,fr,ce⟩:=jR ao dm t N<|And.intro eb ec;clear dm t N eb ec co cn ba bb bi E k0 kd bq bk bm K al bo O u bp dv dx au ao P F;go_wp2_with fail
   have cs:=And.intro y0 (And.intro y1 bh);clear y0 y1 bh;refine cg (λe=>aS e ⟨g,0,none⟩=H (.map<|H K'.nb)/\aS e ⟨g,1,none⟩=H (.map<|H K'.sb)/\gF e K'.nb (K'.files.map df.nm++[(f.name,.pointer<|H ⟨z<|G q,0,none⟩)])) 11 (by kernel_rfl) ?_;refine cQ 0 ?_;iterate 10 (refine wV (v:=?_) cs rfl (by kernel_rfl) (λ_ _ _ h=>h) (Or.inl ⟨by rfl,?_⟩) ?_;rotate_left;(focus(rintro e⟨z0,z1,z2⟩;go_simp;try rfl));simp only[Act.put,Nat.reduceAdd,dZ,gy,fT,dp,cD,cN])
   apply eh;refine lJ (i:=10) (v:=.pointer<|H ⟨z<|G q,0,none⟩) rfl rfl (by kernel_rfl) (by kernel_rfl) (by kernel_rfl) (by kernel_rfl) (λ_ _ _ h=>h) (Or.inl ⟨by rfl,?_⟩) cs ?_
   .rintro e⟨z0,z1,z2⟩;have bn:=tR underlying70 underlying9 et ex z2 f.name;rw[ae ei]at bn;simp only[gW]at bn;clear z0 z1 z2;go_simp;try with_reducible rfl
   simp only[Act.put,dZ,gy,fT,dp,cD,cN];refine aJ (i:=11) rfl rfl (by kernel_rfl) ?_;intro gk cm;try simp only[dp,cD,cN]
   refine Af (.tmp 41) (.tmp 42) (.tmp 48) 70 rfl 9 125 underlying70 underlying9 K'.sb _ rfl (ae ch) f.name (.pointer<|H ⟨z<|G q,0,none⟩) rfl rfl ?_;intro w6 ds dd ff;refine cm _ _ wu ?_;refine cO (by kernel_rfl) ?_ _;have av:Z (λk=>k=K'.sb) W w6:=(bX (λk=>k=K'.sb) W).trans (fi dd)<|λ_ d=>.inl d;have p:Z (λk=>k=K'.nb\/k=K'.sb) n w6:=((ae em).mono (T:=λk=>k=K'.nb\/k=K'.sb)<|λ_ d=>.inl<|.inl d).trans av<|λ_ d=>.inl<|.inr d;have Q:Z (λk=>k=K'.nb\/k=K'.sb) W4 w6:=((Z.dM (S:=λk=>k=K'.nb\/k=K'.sb) (ae eg) (by rintro k⟨⟩;exact .inl<|.inl rfl))).trans av<|λ_ d=>.inl<|.inr d;have w:=U<|show z (G n)<=z (G q)/\True from⟨(ae ce).1,trivial⟩;have gb:=(ae c).lt K'.nb<|.inr<|.inl rfl;have gc:=(ae c).lt K'.sb<|.inr<|.inr<|.inl rfl;have bv:=U<|(ae c).add (f:=⟨f.name,z<|G q,.slice x3 (y f.bytes) c3,f.bytes,y f.bytes⟩) (ae HM) p ((ae ek).ar av<|λcl=>(ae c).ne cl) ds ⟨(Q.block _ (aj<|ae cc) (λd=>by have:=(ae w).1;rcases d with d|d<;>omega)).trans<|ae cc,eS (Q.own (ae ac) (λk o d=>by have:=((ae ac).lt k o).1;have cl:z (G n.drew)=z (G n):=rfl;rcases d with d|d<;>omega))<|bw _,(ae ef).2.2⟩ (ae w).1<|λk o=>((ae ac).lt k o).1;have ck:=U ((ae C).trans p (λk d=>by
    have h1:=((ae m) K'.nb<|.inr<|.inl rfl).1;have h2:=((ae m) K'.sb<|.inr<|.inr<|.inl rfl).1;rcases d with d|d
    .exact .inr<|by omega
    .exact .inr (by omega)))
   have fz:j.nb<z (G a):=(ae HD).lt j.nb<|.inr<|.inl rfl;have ca:=U ((ae A).kept (p.block _ (by have:=(ae C).size;omega) (λd=>by
    have h1:=((ae m) K'.nb (.inr (.inl rfl))).1;have h2:=((ae m) K'.sb (.inr (.inr (.inl rfl)))).1;rcases d with d|d<;>omega)) (p.block _ (ae A).lt (λd=>by
     have h1:=((ae m) K'.nb (.inr (.inl rfl))).2;have h2:=((ae m) K'.sb (.inr (.inr (.inl rfl)))).2;rcases d with d|d<;>omega)))
   clear ds dd ff av p Q;go_wp2;go_roundw;case rel=>
    obtain⟨fb,bn⟩:=ae bv;refine⟨gg++gi,{K' with files:=K'.files++[⟨f.name,z<|G q,.slice x3 (y f.bytes) c3,f.bytes,y f.bytes⟩],sm:=K'.sm.put f.name (.pointer<|H ⟨z<|G q,0,none⟩)},?_,ae HM,fb,?_,?_,λhd hg=>(ae HL) hd ?_,ae ck⟩
    .refine List.Perm.trans ?_<|ae HP;show List.Perm (vw (K'.files++[⟨f.name,z<|G q,.slice x3 (y f.bytes) c3,f.bytes,y f.bytes⟩])++vw (gg++gi)) (vw K'.files++vw (gg++f::gi));simp only[vw,aM,aX,eY,aU,jO];exact lz _ kU.symm
    .intro k o;have bk:=(ae w).1;have gA:=(ae C).size;have gv:=(ae A).lt;rcases bn k o with d|d|d
     .exact(ae m) k d
     .have:k=z (G q):=d;exact⟨by omega,by omega⟩
     .have:=((ae ac).lt k d).1;have cl:z (G n.drew)=z (G n):=rfl;exact⟨by omega,by omega⟩
    .rw[aM];exact ae ca
    .simp only[ak,aA]at hg|-;exact hg.imp id .inr
   case measure=>rw[(ae ca).left_eq,(ae cb).left_eq];simp
