import Derived.Test.YtnfehfmncheoiaaGreatDoorC21
open _root_ renaming List.length→y,Option.some→H,Array.size→z,Go.World.heap→G,Go.Value.ownBlock→bV,Go.World.cell?→aS,Go.World.alloc→ct,Bool.true→bU,Nat→M,Int→X,List→cr,Go.Calls→cw,Go.Proofs.Tryz.prog→bF,Go.Value.slice→I,Go.Value.string→J,Go.Value.bool→aL
namespace Go.Proofs.YtnfehfmncheoiaaGreatDoor
open ChangeShapes WideShapes RowKit Proofs.Tryz
set_option maxHeartbeats 16000000
set_option linter.all false
set_option maxRecDepth 100000
section
variable{h W:Y}{f db sbqq g:M}{e:PB}{mem b:X}{d c:aa}{lo:iB}{O:cr (M×Obj)}{C N:M}{l:LC}{a:Bool}
theorem CP(bi:ji h W f db sbqq g e mem b d c lo O C N l a l a)(A bl:X)(S T:ab)(br:Option Addr)(bk bp:M)(e2:A<=0)(hn:A<0->bk=0):cw bF 12 #[aw f,wO 4 A bl S T<|I br bk bp] W λbh w'=>bh=aO (aL bU)/\ji h w' f db sbqq g e mem b d c lo O C N l a l a:=by
 obtain⟨w,ao⟩:∃w,z (G W)=w:=⟨_,rfl⟩;have h1:ji h (ct W<|fW 4 A bl S T<|I br bk bp) f db sbqq g e mem b d c lo ((w,fW 4 A bl S T<|I br bk bp)::O) C N l a l a:=bi.add ((Z.refl _ W).alloc _) (by omega)<|aC _ ao.symm;have o:=h1.still<|bX az _;have k:=Ex o S T A;have D:=And.intro o.gT.2.1 (And.intro o.dN.2.2.2.1 (And.intro o.dN.2.2.2.2.1 o.dN.2.1));have bq:=aj bi.box;have bg:=bi.lens;have bc:y (if a then []else mJ l.1 S T A)<=1000000:=by have:=my l.1 S T A;split;simp;omega
 have t:=λW'(q:mj W' g e.1 l.1 a e.2)=>tS e.1 S T A q (by omega);have V:(if a=bU\/A<=0 then []else mJ l.1 S T A)=[]:=by exact dw<|.inr e2
 rw[V]at k;obtain⟨Q,hR⟩:∃Q,(if a then []else mJ l.1 S T A)=Q:=⟨_,rfl⟩;obtain⟨gn,an⟩:∃gn:X,(if a then 6 else 0)=gn:=⟨_,rfl⟩;skip
 rw[hR]at bc;simp only[hR,an]at t;have x:=U t;by_cases e1:A<0;case' pos=>obtain rfl:=hn e1
 (all_goals clear hn;unfold wO;unfold fW at k D;clear bi h1 o hR an t V;(go_in);(go_wp2_with fail);(try rw[ao]);rename_i QQ KK r;refine cg (λj=>aS j (R f 1)=H (aw sbqq)/\aS j (R w 3)=H (J S)/\aS j (R w 4)=H (J T)/\aS j (R w 1)=H (am A)) 11 (by kernel_rfl) ?_;refine cQ 0 ?_;(iterate 10 (refine eE (v:=?_) D rfl (by kernel_rfl) iO rfl ?_ ?_;rotate_left;(focus(rintro j⟨z0,z1,z2,z3⟩;go_simp;try rfl));simp only[Act.put,cX,gB,Nat.reduceAdd]));apply eh;refine aJ (i:=10) rfl rfl (by kernel_rfl) ?_;intro KC p;go_simp;apply k.mono;rintro bh W2⟨v2,rfl,K,o⟩;obtain⟨bo,bn,bd⟩:=aB K;subst bd;have u:=o.still<|bX az W2;have ac:=And.intro o.gT.2.1 (And.intro o.dN.2.2.2.1 (And.intro o.dN.2.2.2.2.1 o.dN.2.1));have B:=U K;have n:=U u;refine p _ _ (λ_=>ac) ?_;(try simp only[Act.put,cX,gB]);refine aJ (i:=11) rfl rfl (by kernel_rfl) ?_;intro KL s;go_simp;refine s _ _ wu ?_;refine cO (by kernel_rfl) ?_ _;show KK _ _;apply r;have au:=x _ n.ref;have ad:=And.intro n.gT.2.2.1 (And.intro n.dN.2.2.2.1 (And.intro n.dN.2.2.2.2.1 n.dN.2.1));clear D ac k K o u p s r x;(go_wp2_with fail);rename_i QQ KK r;refine cg (λj=>aS j (R f 2)=H (aw g)/\aS j (R w 3)=H (J S)/\aS j (R w 4)=H (J T)/\aS j (R w 1)=H (am A)) 15 (by kernel_rfl) ?_;refine cQ 0 ?_;(iterate 10 (refine eE (v:=?_) ad rfl (by kernel_rfl) iO rfl ?_ ?_;rotate_left;(focus(rintro j⟨z0,z1,z2,z3⟩;go_simp;try rfl));simp only[Act.put,cX,gB,Nat.reduceAdd]));apply eh;refine aJ (i:=10) rfl rfl (by kernel_rfl) ?_;intro KC p;go_simp;apply au.mono;rintro bh W3⟨v3,rfl,L,F⟩;obtain⟨bx,bs,bf⟩:=aB L;subst bf;have u:=n.still<|Z.aT F;have E:=And.intro u.gT.2.2.1 (And.intro u.dN.2.2.2.1 (And.intro u.dN.2.2.2.2.1 u.dN.2.1));have al:jk W3 (I bo (y ([]:iB)) bn) ([]:iB):=(Z.aT (S:=az) F).row ((bX az W2).row (dF B)<|λk j=>⟨id,(aF B k j).2⟩)<|λk j=>⟨id,(aF B k j).2⟩;obtain⟨bb,bm,ax⟩:=dB al L u;have y1:aS W3 (R w 1)=H (am A):=u.dN.2.1;refine p _ _ (λ_=>E) ?_;(try simp only[Act.put,cX,gB]);refine cQ 11 ?_;(iterate 4 (refine eE (v:=?_) E rfl (by kernel_rfl) iO rfl ?_ ?_;rotate_left;(focus(rintro j⟨z0,z1,z2,z3⟩;go_simp;try rfl));simp only[Act.put,cX,gB,Nat.reduceAdd]));apply eh;refine aJ (i:=15) rfl rfl (by kernel_rfl) ?_;intro KL s;go_simp;refine s _ _ wu ?_;refine cO (by kernel_rfl) ?_ _;show KK _ _;apply r;have P:=mS (m:=([]:iB)) bb (show jk W3 aK []from⟨rfl,.inl ⟨rfl,rfl⟩⟩) (by simp) (by simp);simp only[mu]at P;clear au ad E p s r al L u F;(go_wp2_with fail);apply P.mono;rintro bh W5⟨rfl,kq,av⟩;have ba:=U<|ax.still (W':=W5) (by rw[av];exact gP _ _ _);clear P av;go_wp2;go_ret;exact⟨rfl,ba.drop<|λp j=>aG _ j⟩)
end
section
variable{h W:Y}{f db sbqq g:M}{e:PB}{mem b:X}{d c:aa}{lo:iB}{O:cr (M×Obj)}{C N:M}{l:LC}{a:Bool}
theorem Bg(bi:ji h W f db sbqq g e mem b d c lo O C N l a l a)(A bk:X)(S T:ab)(bq:Option Addr)(bp bn:M)(hA:0<A):cw bF 12 #[aw f,wO 4 A bk S T<|I bq bp bn] W λbh w'=>bh=aO (aL bU)/\ji h w' f db sbqq g e mem b d c lo O C N l a l a:=by
 obtain⟨u,an⟩:∃u,z (G W)=u:=⟨_,rfl⟩;have h1:ji h (ct W<|fW 4 A bk S T<|I bq bp bn) f db sbqq g e mem b d c lo ((u,fW 4 A bk S T<|I bq bp bn)::O) C N l a l a:=bi.add ((Z.refl _ W).alloc _) (by omega)<|aC _ an.symm;have n:=h1.still<|bX az _;have k:=Ex n S T A;have D:=And.intro n.gT.2.1 (And.intro n.dN.2.2.2.1 (And.intro n.dN.2.2.2.2.1 n.dN.2.1));have bo:=aj bi.box;have bg:=bi.lens;have bc:y (if a then []else mJ l.1 S T A)<=1000000:=by have:=my l.1 S T A;split;simp;omega
 have s:=λW'(q:mj W' g e.1 l.1 a e.2)=>tS e.1 S T A q (by omega);have Q:(if a=bU\/A<=0 then []else mJ l.1 S T A)=(if a then []else mJ l.1 S T A):=by cases a<;>simp<;>omega
 rw[Q]at k;obtain⟨w,hR⟩:∃w,(if a then []else mJ l.1 S T A)=w:=⟨_,rfl⟩;obtain⟨gn,al⟩:∃gn:X,(if a then 6 else 0)=gn:=⟨_,rfl⟩;rw[hR]at k;rw[hR]at bc;simp only[hR,al]at s;have x:=U s;have e1:¬(A<0):=by omega
 have e2:¬(A<=0):=by omega
 unfold wO;unfold fW at k D;clear bi h1 n hR al s Q;go_in
 go_wp2_with fail
 try rw[an]
 rename_i QQ KK p;refine cg (λj=>aS j (R f 1)=H (aw sbqq)/\aS j (R u 3)=H (J S)/\aS j (R u 4)=H (J T)/\aS j (R u 1)=H (am A)) 11 (by kernel_rfl) ?_;refine cQ 0 ?_;iterate 10 (refine eE (v:=?_) D rfl (by kernel_rfl) iO rfl ?_ ?_;rotate_left;(focus(rintro j⟨z0,z1,z2,z3⟩;go_simp;try rfl));simp only[Act.put,cX,gB,Nat.reduceAdd])
 apply eh;refine aJ (i:=10) rfl rfl (by kernel_rfl) ?_;intro KC o;go_simp;apply k.mono;rintro bh W2⟨v2,rfl,K,n⟩;obtain⟨bm,bl,bd⟩:=aB K;subst bd;have t:=n.still<|bX az W2;have V:=And.intro n.gT.2.1 (And.intro n.dN.2.2.2.1 (And.intro n.dN.2.2.2.2.1 n.dN.2.1));have B:=U K;have m:=U t;refine o _ _ (λ_=>V) ?_;try simp only[Act.put,cX,gB]
 refine aJ (i:=11) rfl rfl (by kernel_rfl) ?_;intro KL r;go_simp;refine r _ _ wu ?_;refine cO (by kernel_rfl) ?_ _;show KK _ _;apply p;have ao:=x _ m.ref;have ac:=And.intro m.gT.2.2.1 (And.intro m.dN.2.2.2.1 (And.intro m.dN.2.2.2.2.1 m.dN.2.1));clear D V k K n t o r p x;go_wp2_with fail
 rename_i QQ KK p;refine cg (λj=>aS j (R f 2)=H (aw g)/\aS j (R u 3)=H (J S)/\aS j (R u 4)=H (J T)/\aS j (R u 1)=H (am A)) 15 (by kernel_rfl) ?_;refine cQ 0 ?_;iterate 10 (refine eE (v:=?_) ac rfl (by kernel_rfl) iO rfl ?_ ?_;rotate_left;(focus(rintro j⟨z0,z1,z2,z3⟩;go_simp;try rfl));simp only[Act.put,cX,gB,Nat.reduceAdd])
 apply eh;refine aJ (i:=10) rfl rfl (by kernel_rfl) ?_;intro KC o;go_simp;apply ao.mono;rintro bh W3⟨v3,rfl,L,F⟩;obtain⟨bx,br,bf⟩:=aB L;subst bf;have t:=m.still<|Z.aT F;have E:=And.intro t.gT.2.2.1 (And.intro t.dN.2.2.2.1 (And.intro t.dN.2.2.2.2.1 t.dN.2.1));have ad:jk W3 (I bm (y w) bl) w:=(Z.aT (S:=az) F).row ((bX az W2).row (dF B)<|λk j=>⟨id,(aF B k j).2⟩)<|λk j=>⟨id,(aF B k j).2⟩;obtain⟨bb,ba,av⟩:=dB ad L t;have y1:aS W3 (R u 1)=H (am A):=t.dN.2.1;refine o _ _ (λ_=>E) ?_;try simp only[Act.put,cX,gB]
 refine cQ 11 ?_;iterate 4 (refine eE (v:=?_) E rfl (by kernel_rfl) iO rfl ?_ ?_;rotate_left;(focus(rintro j⟨z0,z1,z2,z3⟩;go_simp;try rfl));simp only[Act.put,cX,gB,Nat.reduceAdd])
 apply eh;refine aJ (i:=15) rfl rfl (by kernel_rfl) ?_;intro KL r;go_simp;refine r _ _ wu ?_;refine cO (by kernel_rfl) ?_ _;show KK _ _;apply p;have P:=mS bb (oQ.KP ba) (by omega) (by omega);simp only[mu]at P;clear ao ac E o r p ad L t F;go_wp2_with fail
 apply P.mono;rintro bh W5⟨rfl,kq,au⟩;have ax:=U<|av.still (W':=W5) (by rw[au];exact gP _ _ _);clear P au;go_wp2;go_ret;exact⟨rfl,ax.drop<|λp j=>aG _ j⟩
end
section
variable{h W:Y}{e db sbqq f:M}{g:PB}{mem b:X}{d c:aa}{lo:iB}{O:cr (M×Obj)}{C N:M}{l:LC}{a:Bool}
theorem QE(q:ji h W e db sbqq f g mem b d c lo O C N l a l a)(s:X)(j m:ab)(i:X):y (yP a l.2 s j m i).1<=1000000:=by
 obtain⟨L,K,F,w,A,B,D,p,o,v,r,q⟩:=q;unfold yP;rw[<-q.ref.abs];cases a with
 |true=>exact bw _
 |false=>
  rcases AJ r s with⟨E,x,_,_,n,k⟩|⟨n,k⟩
  .simp only[k];have t:=q.ref.len x (Dd n).1;have u:=my x.l j m i;show y (mJ x.l j m i)<=1000000;omega
  .simp only[k];exact bw _
theorem KE(br:ji h W e db sbqq f g mem b d c lo O C N l a l a)(bg bh:X)(bf bi:ab)(ca:Option Addr)(bT bt:M):cw bF 12 #[aw e,wO 9 bg bh bf bi<|I ca bT bt] W λbq w'=>bq=aO (aL bU)/\ji h w' e db sbqq f g mem b d c lo O C N l a l a:=by
 obtain⟨t,av⟩:∃t,z (G W)=t:=⟨_,rfl⟩;have h1:ji h (ct W<|fW 9 bg bh bf bi<|I ca bT bt) e db sbqq f g mem b d c lo ((t,fW 9 bg bh bf bi<|I ca bT bt)::O) C N l a l a:=br.add ((Z.refl _ W).alloc _) (by omega)<|aC _ av.symm;have o:=h1.still<|bX az _;have m:=Rt o bg bf bi bh;have F:=And.intro o.gT.2.1 (And.intro o.dN.2.1 (And.intro o.dN.2.2.2.1 (And.intro o.dN.2.2.2.2.1 o.dN.2.2.1)));have bu:=aj br.box;have E:=QE br bg bf bi bh;obtain⟨k,gn,s⟩:∃k gn,yP a l.2 bg bf bi bh=(k,gn):=⟨_,_,rfl⟩;rw[s]at m E;simp only at m E;have V:=U s;unfold wO;unfold fW at m F;clear br h1 o s;go_in
 go_wp2_with fail
 try rw[av]
 rename_i QQ KK q;refine cg (λj=>aS j (R e 1)=H (aw sbqq)/\aS j (R t 1)=H (am bg)/\aS j (R t 3)=H (J bf)/\aS j (R t 4)=H (J bi)/\aS j (R t 2)=H (am bh)) 17 (by kernel_rfl) ?_;refine cQ 0 ?_;iterate 12 (refine eE (v:=?_) F rfl (by kernel_rfl) iO rfl ?_ ?_;rotate_left;(focus(rintro j⟨z0,z1,z2,z3,z4⟩;go_simp;try rfl));simp only[Act.put,cX,gB,Nat.reduceAdd])
 apply eh;refine aJ (i:=12) rfl rfl (by kernel_rfl) ?_;intro KC p;go_simp;apply m.mono;rintro bq W2⟨v2,rfl,P,o⟩;obtain⟨bn,bm,bo⟩:=aB P;subst bo;have u:=o.still<|bX az W2;have K:=And.intro o.gT.2.1 (And.intro o.dN.2.1 (And.intro o.dN.2.2.2.1 (And.intro o.dN.2.2.2.2.1 o.dN.2.2.1)));have w:=U P;have n:=U u;refine p _ _ (λ_=>K) ?_;try simp only[Act.put,cX,gB]
 refine cQ 13 ?_;iterate 4 (refine eE (v:=?_) K rfl (by kernel_rfl) iO rfl ?_ ?_;rotate_left;(focus(rintro j⟨z0,z1,z2,z3,z4⟩;go_simp;try rfl));simp only[Act.put,cX,gB,Nat.reduceAdd])
 apply eh;refine aJ (i:=17) rfl rfl (by kernel_rfl) ?_;intro KL r;go_simp;refine r _ _ wu ?_;refine cO (by kernel_rfl) ?_ _;show KK _ _;apply q;have B:=n.QO bg bf bi bh;rw[ae V]at B;simp only at B;have an:=And.intro n.gT.2.2.1 (And.intro n.dN.2.1 (And.intro n.dN.2.2.2.1 (And.intro n.dN.2.2.2.2.1 (n.dN.2.2.1))));clear F K m P o u p r q V;go_wp2_with fail
 rename_i KK q;refine cg (λj=>aS j (R e 2)=H (aw f)/\aS j (R t 1)=H (am bg)/\aS j (R t 3)=H (J bf)/\aS j (R t 4)=H (J bi)/\aS j (R t 2)=H (am bh)) 17 (by kernel_rfl) ?_;refine cQ 0 ?_;iterate 12 (refine eE (v:=?_) an rfl (by kernel_rfl) iO rfl ?_ ?_;rotate_left;(focus(rintro j⟨z0,z1,z2,z3,z4⟩;go_simp;try rfl));simp only[Act.put,cX,gB,Nat.reduceAdd])
 apply eh;refine aJ (i:=12) rfl rfl (by kernel_rfl) ?_;intro KC p;go_simp;apply B.mono;rintro bq W3⟨v3,rfl,Q,x⟩;obtain⟨bx,bs,bp⟩:=aB Q;subst bp;have u:=n.still<|Z.aT x;have L:=And.intro u.gT.2.2.1 (And.intro u.dN.2.1 (And.intro u.dN.2.2.2.1 (And.intro u.dN.2.2.2.2.1 u.dN.2.2.1)));have au:jk W3 (I bn (y k) bm) k:=(Z.aT (S:=az) x).row ((bX az W2).row (dF w)<|λT A=>⟨id,(aF w T A).2⟩)<|λT A=>⟨id,(aF w T A).2⟩;have bd:∀T,bV (I bn (y k) bm)=H T->T<z (G W3):=λT A=>ag (aF w T A).2 x.size;obtain⟨al,ad,ac⟩:=dB (And.intro au bd) Q u;refine p _ _ (λ_=>L) ?_;try simp only[Act.put,cX,gB]
 refine cQ 13 ?_;iterate 4 (refine eE (v:=?_) L rfl (by kernel_rfl) iO rfl ?_ ?_;rotate_left;(focus(rintro j⟨z0,z1,z2,z3,z4⟩;go_simp;try rfl));simp only[Act.put,cX,gB,Nat.reduceAdd])
 apply eh;refine aJ (i:=17) rfl rfl (by kernel_rfl) ?_;intro KL r;go_simp;refine r _ _ wu ?_;refine cO (by kernel_rfl) ?_ _;show KK _ _;apply q;have bb:=kW gn ac.yH;clear B an L p r q au Q u x bd;go_wp2_with fail
 apply bb.mono;rintro bq W4⟨rfl,ao⟩;have D:Z az W3 W4:=Z.aT ao;have bk:=U<|ac.still D;have ax:jk W4 (I bn (y k) bm) k:=D.row al.1<|λT A=>⟨id,al.2 T A⟩;have ba:jk W4 (I bx (y k) bs) k:=D.row (oQ.KP ad)<|λT A=>⟨id,(aF ad T A).2⟩;have S:=mS ax ba (by omega) (by omega);clear ao bb D ax ba;simp only[mu]at S;go_wp2_with fail
 apply S.mono;rintro bq W5⟨rfl,kq,bc⟩;have bl:=U<|bk.still (W':=W5) (by rw[bc];exact gP _ _ _);clear S bc;go_wp2_with fail
 apply(ni gn _).mono;rintro bq W7⟨rfl,bv⟩;subst W7;go_wp2;go_ret;exact⟨rfl,bl.drop<|λp j=>aG _ j⟩
end
section
variable{h W:Y}{e db sbqq f:M}{g:PB}{mem b:X}{d c:aa}{lo:iB}{O:cr (M×Obj)}{C N:M}{l:LC}{a:Bool}
theorem Ny(ao:ji h W e db sbqq f g mem b d c lo O C N l a l a)(K ad:X)(S al:ab)(bb:Option Addr)(ba an:M)(hz:S.size<=140737488351232):cw bF 12 #[aw e,wO 8 K ad S al<|I bb ba an] W λac w'=>ac=aO (aL bU)/\ji h w' e db sbqq f g mem b d c lo O C N l a l a:=by
 obtain⟨x,D⟩:∃x,z (G W)=x:=⟨_,rfl⟩;have h1:ji h (ct W<|fW 8 K ad S al<|I bb ba an) e db sbqq f g mem b d c lo ((x,fW 8 K ad S al<|I bb ba an)::O) C N l a l a:=ao.add ((Z.refl _ W).alloc _) (by omega)<|aC _ D.symm;have n:=h1.still<|bX az _;have k:=Uf n K S hz;have u:=And.intro n.gT.2.1 (And.intro n.dN.2.1 n.dN.2.2.2.1);have au:=aj ao.box;obtain⟨gv,gb,F,r⟩:∃gv gb F,Je a l.2 K S=(gv,gb,F):=⟨_,_,_,rfl⟩;rw[r]at k;simp only at k;have HL:=U n;have A:=U r;unfold wO;unfold fW at k u HL;clear ao h1 n r;go_in
 go_wp2_with fail
 try rw[D]
 rename_i QQ P p;refine cg (λj=>aS j (R e 1)=H (aw sbqq)/\aS j (R x 1)=H (am K)/\aS j (R x 3)=H (J S)) 15 (by kernel_rfl) ?_;refine cQ 0 ?_;iterate 8 (refine eE (v:=?_) u rfl (by kernel_rfl) iO rfl ?_ ?_;rotate_left;(focus(rintro j⟨Q,T,V⟩;go_simp;try rfl));simp only[Act.put,cX,gB,Nat.reduceAdd])
 apply eh;refine aJ (i:=8) rfl rfl (by kernel_rfl) ?_;intro KC o;go_simp;apply k.mono;rintro ac W2⟨rfl,n⟩;have h3:=n.still<|bX az W2;have w:=And.intro n.gT.2.1 (And.intro n.dN.2.1 n.dN.2.2.2.1);have m:=U h3;refine o _ _ (λ_=>w) ?_;try simp only[Act.put,cX,gB]
 refine cQ 9 ?_;iterate 6 (refine eE (v:=?_) w rfl (by kernel_rfl) iO rfl ?_ ?_;rotate_left;(focus(rintro j⟨Q,T,V⟩;go_simp;try rfl));simp only[Act.put,cX,gB,Nat.reduceAdd])
 apply eh;refine aJ (i:=15) rfl rfl (by kernel_rfl) ?_;intro KL q;go_simp;refine q _ _ wu ?_;refine cO (by kernel_rfl) ?_ _;show P _ _;apply p;have t:=m.TD K S hz;rw[ae A]at t;simp only at t;have s:=And.intro m.gT.2.2.1 (And.intro m.dN.2.1 (m.dN.2.2.2.1));clear u w k n h3 o q p HL A;go_wp2_with fail
 rename_i QQ P p;refine cg (λj=>aS j (R e 2)=H (aw f)/\aS j (R x 1)=H (am K)/\aS j (R x 3)=H (J S)) 15 (by kernel_rfl) ?_;refine cQ 0 ?_;iterate 8 (refine eE (v:=?_) s rfl (by kernel_rfl) iO rfl ?_ ?_;rotate_left;(focus(rintro j⟨Q,T,V⟩;go_simp;try rfl));simp only[Act.put,cX,gB,Nat.reduceAdd])
 apply eh;refine aJ (i:=8) rfl rfl (by kernel_rfl) ?_;intro KC o;go_simp;apply t.mono;rintro ac W3⟨rfl,av⟩;subst W3;refine o _ _ (λ_=>s) ?_;try simp only[Act.put,cX,gB]
 refine cQ 9 ?_;iterate 6 (refine eE (v:=?_) s rfl (by kernel_rfl) iO rfl ?_ ?_;rotate_left;(focus(rintro j⟨Q,T,V⟩;go_simp;try rfl));simp only[Act.put,cX,gB,Nat.reduceAdd])
 apply eh;refine aJ (i:=15) rfl rfl (by kernel_rfl) ?_;intro KL q;go_simp;refine q _ _ wu ?_;refine cO (by kernel_rfl) ?_ _;show P _ _;apply p;have E:=kW F m.yH;clear t s o q p;go_wp2_with fail
 apply E.mono;rintro ac W4⟨rfl,B⟩;have L:=U<|m.still<|Z.aT B;clear B E m;go_wp2_with fail
 apply(ni F _).mono;rintro ac W5⟨rfl,ax⟩;subst W5;go_wp2;go_ret;exact⟨rfl,L.drop<|λp j=>aG _ j⟩
end
