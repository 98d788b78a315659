import Derived.Test.YtmnlcbeggagabaaGreatDoorC31
open _root_ renaming List.length→y,Option.some→H,Array.size→z,Go.World.heap→G,Go.Value.ownBlock→cz,Go.World.cell?→aS,Go.World.setCell→cA,Go.World.alloc→cG,Bool.false→bj,Bool.true→ci,Nat→M,Int→U,List→cS,Go.Calls→cD,Go.undef→ix,Go.Proofs.Tryz.prog→aZ,Go.Value.slice→J,Go.Value.string→am,Go.Value.bool→aK,Go.Value.pointer→dF,Go.Value.tuple→dd,Go.Value.agg→dD
namespace Go.Proofs.YtmnlcbeggagabaaGreatDoor
open ChangeShapes WideShapes RowKit Proofs.Tryz List
set_option maxHeartbeats 16000000
set_option linter.all false
set_option maxRecDepth 100000
variable{a f:Z}{b c g m:M}{k D:U}
def Oi(c b:M)(bv d:ab)(e:iF):eT:=λk=>k=c\/RW b bv d e k
def BA(W:Z)(c db:M)(sv:ab)(mem a:U)(b:M):Prop:=W.heap[c]?=H (ay #[aA db,sv,aq mem,aq a,aA b] 36 (0,0))
structure XS(f W:Z)(c db sb b:M)(mem nN:U)(bv d:ab)(e:iF)(B:cS pS)(l h:kK)(safe:U)(C N:M):Prop where
 box:BA W c db (aA sb) mem nN b
 kX:HB (z<|G f) W b bv d e B l safe
 cw:yg f W db sb mem nN (Oi c b bv d e) C N h
 Mb:¬RW b bv d e c
 zh:1<=mem/\mem<=32/\2<=nN/\nN<=6
 num:y B<=N
structure XL(f W:Z)(c db b:M)(sv:ab)(mem nN:U)(bv d:ab)(e:iF)(B:cS pS)(l:kK)(safe:U)(C N:M):Prop where
 box:BA W c db sv mem nN b
 kX:HB (z<|G f) W b bv d e B l safe
 cl:Mf f W db mem nN (Oi c b bv d e) C N l
 Mb:¬RW b bv d e c
 zh:1<=mem/\mem<=32/\2<=nN/\nN<=6
 num:y B<=N
def Md(f W:Z)(c:M)(mem a:U)(C N:M):Prop:=∃db sbqq b bv d e B l safe,XS f W c db sbqq b mem a bv d e B l l safe C N
section
variable{f W g:Z}{c db sbqq b:M}{mem a:U}{bv d sv:ab}{e:iF}{B:cS pS}{l h i:kK}{safe:U}{C C' N N':M}
theorem XS.Je(j:XS f W c db sbqq b mem a bv d e B l h safe C N)(k:I (th f<|Oi c b bv d e) W g)(n:yg f g db sbqq mem a (Oi c b bv d e) C' N' i)(m:N<=N'):XS f g c db sbqq b mem a bv d e B l i safe C' N':=⟨(k.block c (ar j.box)<|λq=>q.2<|.inl rfl).trans j.box,j.kX.ap k<|λp o q=>q.2<|.inr o,n,j.Mb,j.zh,aB j.num m⟩
theorem XS.still(k:XS f W c db sbqq b mem a bv d e B l h safe C N)(j:I az W g):XS f g c db sbqq b mem a bv d e B l h safe C N:=k.Je (j.mono cC) (k.cw.still j)<|ai _
theorem XS.Fi(j:XS f W c db sbqq b mem a bv d e B l h safe C N):ou W:=j.cw.Fi
theorem XS.mono(m:XS f W c db sbqq b mem a bv d e B l h safe C N)(o:C<=C')(j:C'<=1000000)(n:N<=N')(k:N'<=100000000):XS f W c db sbqq b mem a bv d e B l h safe C' N':=⟨m.box,m.kX,m.cw.mono o j n k,m.Mb,m.zh,aB m.num n⟩
theorem XS.TK{k m:ab}{n:iF}{p:cS pS}{j:U}(r:XS f W c db sbqq b mem a bv d e B l h safe C N)(u:I (λo=>o=b\/cz bv=H o) W g)(s:HB (z<|G f) g b k m n p i j)(t:∀o,RW b k m n o->RW b bv d e o\/z (G W)<=o)(v:y p<=N):XS f g c db sbqq b mem a k m n p i h j C N:=by
 have w:=ar r.box;refine⟨(u.block c w<|λq=>r.Mb<|q.elim .inl<|λq=>.inr<|.inl q).trans r.box,s,r.cw.nE u (λo q=>⟨.inr<|q.elim .inl<|λq=>.inr<|.inl q,r.kX.Zi q⟩)<|λo q=>?_,λq=>(t c q).elim r.Mb (λq=>by omega),r.zh,v⟩;rcases q with q|q;exact .inl<|.inl q;exact(t o q).elim (λq=>.inl<|.inr q)<|λr=>.inr ⟨r,s.lt q⟩
theorem HB.XJ{o:M}{s:U}(j:HB o W b bv d e B l safe)(n:I (λk=>k=b) W g)(p:g.heap[b]?=H (ay #[bv,aq s,aK bj,d] 49 (0,0))):HB o g b bv d e B l s where
 box:=p
 own:=n.own j.own<|λk q t=>j.Xi (by rw[q];grind)
 kind:=j.kind.ap n (λk q t=>j.Xi (by rw[q];grind))<|λk q=>(j.own.lt k q).2
 len:=j.len
 each:=λu v p m r=>n.row (j.each u v p m r)<|λk q=>⟨(j.rI v (ew m) k q).2.2.1,(j.rI v (ew m) k q).2.1⟩
 rI:=λv m k q=>⟨(j.rI v m k q).1,ah (j.rI v m k q).2.1 n.size,(j.rI v m k q).2.2⟩
 pr:=n.row j.pr<|λk q=>⟨(j.JZ k q).2.2.1,(j.JZ k q).2.1⟩
 JZ:=λk q=>⟨(j.JZ k q).1,ah (j.JZ k q).2.1 n.size,(j.JZ k q).2.2⟩
 sum:=j.sum
 Xh:=j.Xh
 Xi:=j.Xi
theorem XS.Hg(j:XS f W c db sbqq b mem a bv d e B l h safe C N)(n:U):XS f (cA W (R b 1)<|aq n) c db sbqq b mem a bv d e B l h n C N:=j.TK ((io W b 1<|aq n).mono<|λ_ q=>.inl<|.inl q) (j.kX.XJ (io W b 1<|aq n)<|(aL j.kX.box).trans rfl) (λ_ q=>.inl q) j.num
theorem XL.still(j:XL f W c db b sv mem a bv d e B l safe C N)(k:I az W g):XL f g c db b sv mem a bv d e B l safe C N:=⟨(k.block c (ar j.box) id).trans j.box,j.kX.ap k<|λ_ _=>id,j.cl.still k,j.Mb,j.zh,j.num⟩
theorem XL.Hg(j:XL f W c db b sv mem a bv d e B l safe C N)(n:U):XL f (cA W (R b 1)<|aq n) c db b sv mem a bv d e B l n C N:=by
 have k:=io W b 1<|aq n;exact⟨(k.block c (ar j.box)<|λq=>j.Mb<|.inl q).trans j.box,j.kX.XJ k<|(aL j.kX.box).trans rfl,j.cl.nE k (λm q=>.inr<|.inl q)<|λm q=>.inl q,j.Mb,j.zh,j.num⟩
theorem XL.St(j:XL f W c db b sv mem a bv d e B l safe C N)(u:ab):XL f (cA W (R c 1) u) c db b u mem a bv d e B l safe C N:=by
 have k:=io W c 1 u;exact⟨(aL j.box).trans rfl,j.kX.ap k<|λn q o=>j.Mb (by have m:n=c:=o;exact m▸q),j.cl.nE k (λn q=>.inl q)<|λn q=>.inl q,j.Mb,j.zh,j.num⟩
theorem XS.closed(j:XS f W c db sbqq b mem a bv d e B l h safe C N)(k:I (th f<|Oi c b bv d e) W g)(m:Mf f g db mem a (Oi c b bv d e) C N l):XL f g c db b (aA sbqq) mem a bv d e B l safe C N:=⟨(k.block c (ar j.box)<|λq=>q.2<|.inl rfl).trans j.box,j.kX.ap k<|λo n q=>q.2<|.inr n,m,j.Mb,j.zh,j.num⟩
theorem yg.iy{n:eT}(m:yg f W db sbqq mem a n C N l):∃o p,W.heap[db]?=H (ay o 72 p):=by
 obtain⟨w,K,v,r,s,t,u,k,j,m⟩:=m;have q:=m.zi.2.1;subst q;exact⟨_,_,m.inv.st.aM.iy⟩
theorem XL.opened(m:XL f W c db b (dF none) mem a bv d e B l safe C N)(r:I (th f<|Oi c b bv d e) W g)(o:yg f g db sbqq mem a (Oi c b bv d e) C N' l)(v:N<=N'):BA g c db (dF none) mem a b/\XS f (cA g (R c 1)<|aA sbqq) c db sbqq b mem a bv d e B l l safe C N':=by
 have j:BA g c db (dF none) mem a b:=(r.block c (ar m.box)<|λq=>q.2<|.inl rfl).trans m.box;have p:=m.kX.ap r<|λs j q=>q.2<|.inr j;have k:=io g c 1<|aA sbqq;refine⟨j,(aL j).trans rfl,p.ap k<|λs q t=>m.Mb (by have u:s=c:=t;exact u▸q),o.nE k (λs q=>⟨.inl q,?_⟩)<|λs q=>.inl q,m.Mb,m.zh,aB m.num v⟩;have t:s=c:=q;subst t;obtain⟨A,D,w⟩:=o.iy;refine⟨_,_,_,j,by decide,.inl λE q=>?_,λq x=>?_⟩;simp at q;(have n:q=db\/q=b:=by simpa using x);rcases n with rfl|rfl;exact⟨_,_,_,w,by decide⟩;exact⟨_,_,_,p.box,by decide⟩
end
section
variable{c W:Z}{b:M}{mem a:U}{C N:M}
theorem IB(h:Md c W b mem a C N)(al:Option Addr)(ad ac:M)(hN:N+1<=100000000):cD aZ 20 #[aA b,dD #[aq 2,J al ad ac]] W λaa T=>aa=aJ (dd #[aq 0,aK bj])/\Md c T b mem a C (N+1):=by
 obtain⟨db,K,k,bv,pv,L,an,ao,l,h⟩:=h;have hB:=h.num;have c1:=cellAt h.box 1 rfl;have c4:=cellAt h.box 4 rfl;have u:=ar h.box;have O:=Y h;clear h;go_in
 go_wp2_with fail
 obtain⟨B,m⟩:∃B,cG W (ay #[aq 2,J al ad ac] 63)=B:=⟨_,rfl⟩;have n:=O.still (show I az W B by rw[<-m];exact cK az W);rw[m];clear m c1 c4 u;apply(NQ n.cw hN).mono;rintro aa V⟨rfl,t,s⟩;have q:=n.Je t s (by omega);have x:=Y q;clear t s n q;go_wp2_with fail
 apply(kr V).mono;rintro aa w⟨rfl,r⟩;have d:=x.still<|I.aQ r;have c4:=cellAt d.box 4 rfl;have u:=ar d.box;have X:=cellAt d.kX.box 0 rfl;have d1:=cellAt d.kX.box 1 rfl;have f1:=cZ (i:=1) d.kX.box;obtain⟨F,E,D⟩:=aC d.kX.own;subst D;have A:=Y d;clear r d;go_wp2_with fail
 rename_i QQ S p;have f:aS w.drew (R b 4)=H (aA k)/\aS w.drew (R k 0)=H (J F (y L) E)/\aS w.drew (R k 1)=H (aq l)/\w.drew.frozen? (R k 1)=bj:=⟨c4,X,d1,f1⟩;refine dL (λe=>aS e (R b 4)=H (aA k)/\aS e (R k 0)=H (J F (y L) E)/\aS e (R k 1)=H (aq l)/\e.frozen? (R k 1)=bj) 14 (by kernel_rfl) ?_;refine eR 0 ?_;iterate 12 (refine iC (v:=?_) f rfl (by kernel_rfl) ma rfl ?_ ?_;rotate_left;(focus(rintro e⟨z0,z1,z2,z3⟩;go_simp;try rfl));simp only[Act.put,eF,jx,Nat.reduceAdd])
 apply ig;refine bC (i:=12) rfl rfl (by kernel_rfl) ?_;intro P g;go_simp;refine g _ _ (λ_=>f) ?_;try simp only[Act.put,eF,jx]
 clear g;refine bC (i:=13) rfl rfl (by kernel_rfl) ?_;intro Q j;go_simp;refine j _ _ (λ_=>f) ?_;try simp only[Act.put,eF,jx]
 clear j;refine bC (i:=14) rfl rfl (by kernel_rfl) ?_;intro K1 o;go_simp;refine o _ _ Fc ?_;try simp only[Act.put,eF,jx]
 clear o f;refine eN (by kernel_rfl) ?_ _;show S _ _;apply p;clear p;go_wp2;go_ret2
 exact⟨rfl,_,_,_,_,_,_,_,_,_,(A.Hg _).still<|cR az _⟩
theorem NJ(h:Md c W b mem a C N)(bd:Option Addr)(bb ba:M)(hN:N+1<=100000000):cD aZ 20 #[aA b,dD #[aq 3,J bd bb ba]] W λaD W'=>aD=aJ (dd #[aq 0,aK bj])/\Md c W' b mem a C (N+1):=by
 obtain⟨db,aU,o,bv,pv,K,bf,bg,t,h⟩:=h;have hB:=h.num;have c1:=cellAt h.box 1 rfl;have ax:=ar h.box;have HX:=Y h;clear h;go_in
 go_wp2_with fail
 obtain⟨W1,w⟩:∃W1,cG W (ay #[aq 3,J bd bb ba] 63)=W1:=⟨_,rfl⟩;have B:=HX.still (show I az W W1 by rw[<-w];exact cK az W);rw[w];clear w c1 ax;apply(Lr B.cw).mono;rintro aD W2⟨rfl,ad,aa⟩;have T:=B.closed ad aa;have al:=Y T;clear ad aa B T;go_wp2_with fail
 apply(kr W2).mono;rintro aD W3⟨rfl,X⟩;have j:=al.still<|I.aQ X;have c1:=cellAt j.box 1 rfl;have c4:=cellAt j.box 4 rfl;have g1:=cZ (i:=1) j.box;have k:=j.St<|dF none;have d0:=cellAt k.kX.box 0 rfl;have d1:=cellAt k.kX.box 1 rfl;have f1:=cZ (i:=1) k.kX.box;have c4:=cellAt k.box 4 rfl;obtain⟨bx,bc,av⟩:=aC j.kX.own;subst av;have O:=Y k;clear X j k;go_wp2_with fail
 rename_i QQ KK l;obtain⟨u,x⟩:∃u,cA W3 (R b 1) (dF none)=u:=⟨_,rfl⟩;rw[x]at O d0 d1 f1 c4;rw[x];have g:aS u.drew (R b 4)=H (aA o)/\aS u.drew (R o 0)=H (J bx (y K) bc)/\aS u.drew (R o 1)=H (aq t)/\u.drew.frozen? (R o 1)=bj:=⟨c4,d0,d1,f1⟩;refine dL (λd=>aS d (R b 4)=H (aA o)/\aS d (R o 0)=H (J bx (y K) bc)/\aS d (R o 1)=H (aq t)/\d.frozen? (R o 1)=bj) 14 (by kernel_rfl) ?_;refine eR 0 ?_;iterate 12 (refine iC (v:=?_) g rfl (by kernel_rfl) ma rfl ?_ ?_;rotate_left;(focus(rintro d⟨z0,z1,z2,z3⟩;go_simp;try rfl));simp only[Act.put,eF,jx,Nat.reduceAdd])
 apply ig;refine bC (i:=12) rfl rfl (by kernel_rfl) ?_;intro ao e;go_simp;refine e _ _ (λ_=>g) ?_;try simp only[Act.put,eF,jx]
 clear e;refine bC (i:=13) rfl rfl (by kernel_rfl) ?_;intro au f;go_simp;refine f _ _ (λ_=>g) ?_;try simp only[Act.put,eF,jx]
 clear f;refine bC (i:=14) rfl rfl (by kernel_rfl) ?_;intro K1 Q;go_simp;refine Q _ _ Fc ?_;try simp only[Act.put,eF,jx]
 clear Q g;refine eN (by kernel_rfl) ?_ _;show KK _ _;apply l;clear l;obtain⟨n,A⟩:∃n,(cA u (R o 1)<|aq<|y K).drew=n:=⟨_,rfl⟩;have m:XL c n b db o (dF none) mem a (J bx (y K) bc) pv K bf bg (y K) C N:=by rw[<-A];exact(O.Hg _).still<|cR az _
 rw[A];have e0:=cellAt m.box 0 rfl;have e2:=cellAt m.box 2 rfl;have e3:=cellAt m.box 3 rfl;have p:=Y m;clear m A x c1 c4 g1 d0 d1 f1;go_wp2_with fail
 rename_i QQ KK l;have ac:=IE (p.still<|cR az n).cl p.zh hN;have g:aS n.drew (R b 0)=H (aA db)/\aS n.drew (R b 2)=H (aq mem)/\aS n.drew (R b 3)=H (aq a):=⟨e0,e2,e3⟩;refine dL (λd=>aS d (R b 0)=H (aA db)/\aS d (R b 2)=H (aq mem)/\aS d (R b 3)=H (aq a)) 13 (by kernel_rfl) ?_;refine eR 0 ?_;iterate 8 (refine iC (v:=?_) g rfl (by kernel_rfl) ma rfl ?_ ?_;rotate_left;(focus(rintro d⟨z0,z1,z2⟩;go_simp;try rfl));simp only[Act.put,eF,jx,Nat.reduceAdd])
 apply ig;refine bC (i:=8) rfl rfl (by kernel_rfl) ?_;intro K8 S;go_simp;apply ac.mono;rintro aD P⟨rfl,aV,E,D⟩;obtain⟨r,_⟩:=(p.still<|cR az n).opened E D (by omega);have q:aS P (R b 0)=H (aA db)/\aS P (R b 2)=H (aq mem)/\aS P (R b 3)=H (aq a):=⟨cellAt r 0 rfl,cellAt r 2 rfl,cellAt r 3 rfl⟩;refine S _ _ (λ_=>q) ?_;try simp only[Act.put,eF,jx]
 clear S ac;refine eR 9 ?_;iterate 3 (refine iC (v:=?_) q rfl (by kernel_rfl) ma rfl ?_ ?_;rotate_left;(focus(rintro d⟨z0,z1,z2⟩;go_simp;try rfl));simp only[Act.put,eF,jx,Nat.reduceAdd])
 apply ig;refine bC (i:=12) rfl rfl (by kernel_rfl) ?_;intro ao e;go_simp;refine e _ _ (λ_=>q) ?_;try simp only[Act.put,eF,jx]
 clear e;refine bC (i:=13) rfl rfl (by kernel_rfl) ?_;intro au f;go_simp;refine f _ _ Fc ?_;try simp only[Act.put,eF,jx]
 clear f q g;refine eN (by kernel_rfl) ?_ _;show KK _ _;apply l;clear l;have L:=Y<|And.intro E D;clear r E D e0 e2 e3;go_wp2_with fail
 apply(kr P).mono;rintro aD W7⟨rfl,s⟩;have F:I az P W7:=I.aQ s;obtain⟨s,V⟩:=(p.still<|cR az n).opened (L.1.bW F) (L.2.still F) (by omega);have c1:=cellAt s 1 rfl;have g1:=cZ (i:=1) s;have aF:∀w:Z,(binOp .eql 31 (aA<|z (G n)+2)<|dF none).run aZ w=.ok (aK bj) w:=λ_=>rfl;have an:=Y V;clear V F;go_wp2;go_ret2
 exact⟨rfl,_,_,_,_,_,_,_,_,_,an⟩
end
section
variable{c W:Z}{b:M}{mem a:U}{C N:M}
theorem EB(l:kK):Cv l ⟨#[]⟩ ⟨#[]⟩ 0=l:=by
 have h:∀(l d:kK),l.foldl (iU ⟨#[]⟩ ⟨#[]⟩ 0) d=d++l:=by
  intro l;induction l with
  |nil=>simp
  |cons p l g=>
   intro d;rw[gD,g];have f:Ac ⟨#[]⟩ ⟨#[]⟩ 0 (y d) p=ci:=by
    have e:ByteArray.toList ⟨#[]⟩=[]:=by
     simp[ByteArray.toList,ByteArray.toList.loop,ByteArray.size]
    unfold Ac Mc;rw[e];cases p.1.toList<;>simp[Op.bytesLess]
   unfold iU;rw[dV f];simp
 exact h l []
theorem Tj{w:Z}{x:Option Addr}{e:GL}{f:pS}{m:M}(o:Cz w (J x (y<|e::f) m) (e::f)):∃i d,x=H (R i d)/\y (e::f)<=m/\aS w (R i d)=H (am e.key)/\i<z (G w):=by
 rcases o with⟨⟨_,⟨n,g⟩|⟨i,d,j,n,h,l⟩⟩,k⟩|⟨g,_⟩;simp at g;cases n;exact⟨i,d,rfl,h,l 0 _ rfl,k i rfl⟩;cases g
theorem Uk(h:Md c W b mem a C N)(aU:Option Addr)(q:pS)(av:M)(hL:Cz c (J aU (y q) av) q)(F:∀K∈q,K.key.size<=140737488351232/\K.val.size<=140737488351232):cD aZ 20 #[aA b,dD #[aq 4,J aU (y q) av]] W λB p=>B=aJ (dd #[aq 0,aK bj])/\Md c p b mem a C N:=by
 obtain⟨P,f,A,O,Q,S,au,s,i,h⟩:=h;have c1:=cellAt h.box 1 rfl;have ad:=ar h.box;have an:y s<=C/\C<=1000000:=by obtain⟨al,aa,ba,ac,aV,av,bb,X,L,w⟩:=h.cw;exact⟨w.len,w.inv.st.oO⟩
 have D:=hL.ap h.cw.ap<|λ_ _=>id;have HX:=Y h;clear h;have e:∀L d,cG W (ay #[aq 4,J aU (y q) av] 63)=L->d.size<=140737488351232->cD aZ 17 #[aA f,am d] L λB p=>B=aJ (dd #[am (yY s d).1,aK (yY s d).2.1,pO (yY s d).2.2])/\XS c p b P f A mem a O Q S au s s i C N:=λL d X F=>by have w:=HX.still (show I az W L by rw[<-X];exact cK az W);apply(Un w.cw d F).mono;rintro B v⟨rfl,ac,aa⟩;exact⟨rfl,w.Je ac aa<|ai _⟩
 have j:=Y e;clear e;have r:∀d,d.size<=140737488351232->∀v,XS c v b P f A mem a O Q S au s s i C N->∃ao al x,yY s d=(ao,al,x)/\(cD aZ 11 #[pO x] v λB p=>B=aJ (aq x)/\XS c p b P f A mem a O Q S au s s i C N)/\(x=3\/x=0/\lZ s d=(ao,al)):=λd F v k=>by have l:∀x,cD aZ 11 #[pO x] v λB p=>B=aJ (aq x)/\XS c p b P f A mem a O Q S au s s i C N:=λx=>(FA x k.Fi).mono (by rintro B p⟨rfl,A⟩;exact⟨rfl,k.still<|I.aQ A⟩);by_cases w:d.size=0\/8<d.size;exact⟨⟨#[]⟩,bj,3,dV w,l 3,.inl rfl⟩;exact⟨(lZ s d).1,(lZ s d).2,0,eI w,l 0,.inr ⟨rfl,rfl⟩⟩
 have o:=Y r;clear r;cases q;(case' nil=>obtain⟨d,e⟩:∃d:ae,d=⟨#[97]⟩:=⟨_,rfl⟩;(have m:d.size<=140737488351232:=by rw[e];decide);(go_in);(go_wp2_with fail);rw[<-e];clear e);(case' cons V q=>obtain⟨aV,aa,rfl,L,w,ac⟩:=Tj D;have m:=(F V<|by simp).1;obtain⟨d,e⟩:∃d,V.key=d:=⟨_,rfl⟩;rw[e]at m w;clear e;obtain⟨x,X⟩:∃x,y (V::q)=x:=⟨_,rfl⟩;(have e2:0<x:=by rw[<-X];simp);(have e1:(0:U)<(x:U):=by omega);rw[X]at j L|-;clear hL D X F;(go_in);go_wp2_with fail);(all_goals apply(j _ d rfl m).mono;rintro B v⟨rfl,k⟩;obtain⟨ao,al,ba,hg,l,hm⟩:=o d m v k;rw[hg];simp only;obtain⟨t,T⟩:=And.intro (Y l) (Y hm);clear k l hg j o HX c1 ad hm;(go_wp2_with fail);apply t.mono;rintro B W3⟨rfl,g⟩;have c4:=cellAt g.box 4 rfl;have d3:=cellAt g.kX.box 3 rfl;have n:=Kt d g.kX.pr (by omega);rcases af T with rfl|⟨rfl,E⟩;(.have u:=Y g;clear g T t n;go_wp2;(go_ret2);exact⟨rfl,_,_,_,_,_,_,_,_,_,u⟩);rw[E]at n;have u:=Y g;clear g T t E;(have aD:(!ao.toList==ao.toList)=bj:=by simp);(have ax:(!al==al)=bj:=by cases al<;>rfl);(go_wp2_with fail);apply n.mono;rintro B W4⟨rfl,aF⟩;subst W4;clear n;go_wp2;(go_ret2);exact⟨rfl,_,_,_,_,_,_,_,_,_,u⟩)
theorem Rs(h:Md c W b mem a C N)(al:Option Addr)(ad aa:M):cD aZ 20 #[aA b,dD #[aq 5,J al ad aa]] W λS V=>S=aJ (dd #[aq 0,aK bj])/\Md c V b mem a C N:=by
 obtain⟨db,u,hb,bv,pv,vs,an,E,t,h⟩:=h;have c1:=cellAt h.box 1 rfl;have D:=ar h.box;have O:y E<=C/\C<=1000000:=by obtain⟨aF,ao,aD,au,av,aa,ax,Q,P,L⟩:=h.cw;exact⟨L.len,L.inv.st.oO⟩
 have T:=Y h;clear h;go_in
 go_wp2_with fail
 obtain⟨A,g⟩:∃A,cG W (ay #[aq 5,J al ad aa] 63)=A:=⟨_,rfl⟩;have i:=T.still (show I az W A by rw[<-g];exact cK az W);rw[g];clear g c1 D;apply(ON i.cw _ _ _).mono;rintro S F⟨v2,rfl,j,k,q⟩;have n:=i.Je k q<|ai _;have ac:=k.size;obtain⟨gx,gc,B⟩:=aC j;subst B;obtain⟨v,m,f⟩:=dz n j<|show Cv E ⟨#[]⟩ ⟨#[]⟩ 0=E from EB E;clear k q i n j;go_wp2_with fail
 apply(kr F).mono;rintro S K⟨rfl,p⟩;have l:I az F K:=I.aQ p;have d:=v.still l;have r:rJ K _ _:=l.row (dE m)<|λk d=>⟨id,(m.lt k d).2⟩;have c4:=cellAt d.box 4 rfl;have d3:=cellAt d.kX.box 3 rfl;have e:=qL r d.kX.pr (by rw[af f];omega) (by omega);rw[af f]at e;rw[af f];simp only[qR]at e;have w:=Y d;clear d r l p;go_wp2_with fail
 apply e.mono;rintro S X⟨rfl,k4,s⟩;have o:XS c X b db u hb mem a bv pv vs an E E t C N:=w.still (by rw[s];exact je _ _ _);have x:=Y o;clear o s e;go_wp2;go_ret2
 exact⟨rfl,_,_,_,_,_,_,_,_,_,x⟩
end
section
variable{c W:Z}{b:M}{mem a:U}{C N:M}
theorem NI(h:Md c W b mem a C N)(g:U)(S:Option Addr)(d:pS)(A:M)(hk:¬g=2/\¬g=3/\¬g=4/\¬g=5)(hL:Cz c (J S (y d) A) d)(hz:∀bd∈d,bd.key.size<=140737488351232/\bd.val.size<=140737488351232)(hr:y d<=100000000)(hC:C+mj d<=1000000)(hN:N+1<=100000000):cD aZ 20 #[aA b,dD #[aq g,J S (y d) A]] W λT W'=>T=aJ (dd #[aq 0,aK bj])/\Md c W' b mem a (C+mj d) (N+1):=by
 obtain⟨db,f,O,bv,pv,vs,bx,bf,D,h⟩:=h;have bo:y bf<=C:=by obtain⟨bn,ad,bh,ao,aF,A,aU,Q,w,hc⟩:=h.cw;exact hc.len
 have bp:=h.num;obtain⟨k2,k3,k4,k5⟩:=hk;have b2:(g==2)=bj:=by simpa using k2
 have b3:(g==3)=bj:=by simpa using k3
 have b4:(g==4)=bj:=by simpa using k4
 have b5:(g==5)=bj:=by simpa using k5
 clear k2 k3 k4 k5;obtain⟨bk,bt⟩:∃bk,(g==1)=bk:=⟨_,rfl⟩;have bc:=ar h.box;have HX:=Y h;have HL:=Y hL;clear h hL;have aV:∀w,cG W (ay #[aq g,J S (y d) A] 63)=w->cD aZ 45 #[J S (y d) A] w λT Q=>∃v',T=aJ v'/\LU Q (z<|G w) v' d/\I az w Q/\XS c Q b db f O mem a bv pv vs bx bf bf D C N/\Q.heap[z<|G W]?=H (ay #[aq g,J S (y d) A] 63 (0,0))/\yg c Q db f mem a (λbq=>Oi b O bv pv vs bq\/bq=z (G W)) C N bf:=λw ad=>by(have aU:I az W w:=by rw[<-ad];exact cK az W);have ao:=HX.still aU;(have hn:w.heap[z<|G W]?=H (ay #[aq g,J S (y d) A] 63 (0,0)):=by rw[<-ad];exact aH _<|by simp);apply(Om (by omega)<|(HL.ap ao.cw.ap<|λ_ _=>id)).mono;rintro T Q⟨v',rfl,ho,O⟩;have ht:I az w Q:=I.aQ O;have aF:=(ht.block _ (ar hn) id).trans hn;exact⟨v',rfl,ho,ht,ao.still ht,aF,HX.cw.nE (aU.bW ht) cC<|λbq q=>q.imp id<|λT=>⟨by omega,by rw[T];exact ar aF⟩⟩
 have V:=Y aV;clear aV;go_in
 go_wp2_with fail
 apply(V _ rfl).mono;rintro T F⟨v2,rfl,r,bl,o,hq,aD⟩;obtain⟨x2,c2,bm⟩:=aC r;subst bm;have ax:=RC (dE r) (by omega);have c1:=cellAt o.box 1 rfl;have q0:=cellAt hq 0 rfl;have q1:=cellAt hq 1 rfl;have bb:=λe(hX:I az F e)=>Um (aD.still hX) (J S (y d) A) d bk HL hz (by omega) hC hN;have bc:=ar o.box;have an:=ar hq;obtain⟨aa,bg,HQ,X⟩:=fX o r hq bb;clear o r bl V HX hq aD bb;go_wp2_with fail
 apply ax.mono;rintro T bi⟨rfl,hw⟩;subst bi;clear ax;go_wp2_with fail
 rename_i QQ KK m;have n:aS F.drew (R b 1)=H (aA f)/\aS F.drew (R (z<|G W) 0)=H (aq g)/\aS F.drew (R (z<|G W) 1)=H (J S (y d) A):=⟨c1,q0,q1⟩;refine dL (λe=>aS e (R b 1)=H (aA f)/\aS e (R (z<|G W) 0)=H (aq g)/\aS e (R (z<|G W) 1)=H (J S (y d) A)) 10 (by kernel_rfl) ?_;refine eR 0 ?_;iterate 9 (refine iC (v:=?_) n rfl (by kernel_rfl) ma rfl ?_ ?_;rotate_left;(focus(rintro e⟨z0,z1,z2⟩;go_simp;try rfl));simp only[Act.put,eF,jx,Nat.reduceAdd])
 apply ig;refine bC (i:=9) rfl rfl (by kernel_rfl) ?_;intro K9 l;go_simp;apply(X F.drew<|cR az F).mono;rintro T K⟨rfl,P,av⟩;have p:XS c K b db f O mem a bv pv vs bx bf (uf bf d) D (C+mj d) (N+1):=(aa.still<|cR az F).Je (P.mono<|λbq q=>.inl ⟨q.1,λA=>q.2<|.inl A⟩) (av.nE (I.refl az K) cC<|λbq q=>.inl<|.inl q) (by omega);have s:K.heap[z<|G W]?=H (ay #[aq g,J S (y d) A] 63 (0,0)):=(P.block _ (by exact an)<|λq=>q.2<|.inr rfl).trans HQ;have al:aS K (R b 1)=H (aA f)/\aS K (R (z<|G W) 0)=H (aq g)/\aS K (R (z<|G W) 1)=H (J S (y d) A):=⟨cellAt p.box 1 rfl,cellAt s 0 rfl,cellAt s 1 rfl⟩;refine l _ _ (λ_=>al) ?_;try simp only[Act.put,eF,jx]
 clear l;refine bC (i:=10) rfl rfl (by kernel_rfl) ?_;intro br B;go_simp;refine B _ _ Fc ?_;try simp only[Act.put,eF,jx]
 clear B al n;refine eN (by kernel_rfl) ?_ _;show KK _ _;apply m;have ba:=FA (fJ d) p.Fi;obtain⟨ac,E⟩:=And.intro (Y p) (Y s);clear m p s P av X aa HQ bg c1 q0 q1 an bc;go_wp2_with fail
 apply ba.mono;rintro T x⟨rfl,au⟩;have u:I az K x:=I.aQ au;have j:=ac.still u;have t:=(u.block _ (ar E) id).trans<|af E;clear ba au ac E;by_cases L:fJ d=0;(.rw[L];have q0:=cellAt t 0 rfl;have q1:=cellAt t 1 rfl;have c4:=cellAt j.box 4 rfl;have e1:uf bf d=AC bf d:=dV L;have e2:mj d=y d:=dV L;have ao:=λe(hX:I az x e)=>Gl (j.still hX).kX (J S (y d) A) d bk (HL.ap (j.still hX).cw.ap<|λ_ _=>id) L (by omega) (by omega) (j.still hX).cw.ap.size;obtain⟨k,Q⟩:=And.intro (Y j) (Y ao);clear j ao t u;(go_wp2_with fail);rename_i KK m;have n:aS x.drew (R b 4)=H (aA O)/\aS x.drew (R (z<|G W) 0)=H (aq g)/\aS x.drew (R (z<|G W) 1)=H (J S (y d) A):=⟨c4,q0,q1⟩;refine kG (λe=>aS e (R b 4)=H (aA O)/\aS e (R (z<|G W) 0)=H (aq g)/\aS e (R (z<|G W) 1)=H (J S (y d) A)) 9 (by kernel_rfl) ?_;refine lT 0 ?_;(iterate 9 (refine yG (v:=?_) n rfl (by kernel_rfl) ma rfl ?_ ?_;rotate_left;(focus(rintro e⟨z0,z1,z2⟩;go_simp;try rfl));simp only[Act.put,eF,jx,Nat.reduceAdd]));apply qo;refine gH (i:=9) rfl rfl (by kernel_rfl) ?_;intro K9 l;go_simp;apply(Q x.drew<|cR az x).mono;rintro T W5⟨rfl,bs,bu,v',bn,ad,aU,aF⟩;have w:=(k.still<|cR az x).TK aU ad aF (by simp;omega);rw[e1]at w;have bh:=Y w;clear ad aU aF w k Q;refine l _ _ (λq=>by omega) ?_;(try simp only[Act.put,eF,jx]);clear l n;refine kH (by kernel_rfl) ?_ _;show KK _ _;apply m;clear m;go_wp2;(go_ret2);exact⟨rfl,_,_,_,_,_,_,_,_,_,bh⟩);(have Q:(fJ d==0)=bj:=by simpa using L);have k:=Y j;clear j t u;(go_wp2_with fail);apply(Vo _ _).mono;rintro T W5⟨rfl,w⟩;subst W5;have e1:uf bf d=bf:=eI L;rw[e1]at k;(have ad:(!fJ d==fJ d)=bj:=by simp);clear L;go_wp2;(go_ret2);exact⟨rfl,_,_,_,_,_,_,_,_,_,k⟩
end
theorem Ld(f:ae×dN)(r:Fs):ii (f::r)=y f.2+ii r:=by simp[ii]
theorem Gh{q:ae×dN}:∀{f:Fs},q∈f->y q.2<=ii f
 |[],p=>by simp at p
 |g::r,p=>by
  rw[Ld];rcases bR.1 p with rfl|p
  .omega
  .have:=Gh p;omega
theorem Bo{q:ae}{b:dN}:∀{p:Fs},dB p q=H b->(q,b)∈p
 |[],f=>by simp[dB]at f
 |g::s,f=>by
  unfold dB at f;by_cases r:g.1=q
  .rw[dV r]at f;grind
  .rw[eI r]at f;exact dC _<|Bo f
theorem Rh{p g:Fs}(s:(p.map (·.1)).Nodup)(r:g.Perm p)(t:ae):dB g t=dB p t:=by
 have q:(g.map (·.1)).Nodup:=(r.map _).nodup_iff.2 s;rcases h1:dB p t with _|b;rcases h2:dB g t with _|b;rfl;have:=vA s<|r.mem_iff.1<|Bo h2;grind
 exact vA q (f:=(t,b))<|r.mem_iff.2<|Bo h1
theorem xz.bytes{w:Z}{db:M}{K:DK}{a b c d:cN}{C tbqq N nx m:M}{e:Bool}{lsqq:dJ}(p:xz w db K a b c d C tbqq N nx m e lsqq):∀f∈K.files,y f.bytes<=1099511627776:=λf q=>by
 have s:=oT (f:=(tbqq:U)+1)<|λl g=>⟨p.lp.iH l g,(p.lp.one l g).2⟩;have t:=yK<|λl g=>(p.lp.one l g).1;have u:=p.lp.sum;have v:=p.oa.total p.aM.nodup (by omega) p.count;have r:(f.name,f.bytes)∈vw K.files:=bM.2 ⟨f,q,rfl⟩;have:=Gh r;grind
theorem SI:PR 0 (bY [] [] [] []):=by
 have f:bY [] [] [] []=[[],[],[]]:=rfl;rw[f];have g:PR 0 ([]:dJ):=⟨List.Pairwise.nil,by simp,by simp,by simp⟩;grind[PR.Kf]
theorem KF{w:Z}{db b:M}(q:cH w db (iM b))(s:Steps w)(r:Pow w)(g:¬(iM b).aO db 1)(p:¬(iM b).aO db 2):xz w db (iM b) [] [] [] [] 0 0 0 2 1 bj []where
 aM:=q
 oa:=by
  refine⟨λu t f=>?_,.inr ⟨rfl,rfl,rfl,rfl,rfl,rfl,rfl,rfl⟩,λf=>(by cases f),λ_=>rfl,by simp,by simp,by simp,by omega,by simp⟩;simp[iM,vw,dB]at f
 pr:=SI
 lp:=⟨by simp,by simp,by simp,by simp,by omega,by simp⟩
 qp:=by simp[gp,bZ]
 oO:=by omega
 s1:=⟨by simp,List.Pairwise.nil,List.Pairwise.nil⟩
 s2:=⟨by simp,List.Pairwise.nil,List.Pairwise.nil⟩
 s3:=⟨by simp,List.Pairwise.nil,List.Pairwise.nil⟩
 Qt:=λf=>by cases f
 nx:=by omega
 bn:=by simp
 dM:=by simp[iM]
 AM:=by omega
 steps:=s
 pow:=r
 eL:=g
 lf:=p
section
variable{k W i:Z}{o db n:M}{mem h:U}{j:eT}{K:DK}{a b c d:cN}{C tbqq N nx m:M}{e:Bool}{lsqq:dJ}{l:kK}
theorem CL.copied(p:CL k W db mem h j K a b c d C tbqq N nx m e lsqq l){u:M}{g:DK}(v:cH i u g)(x:(vw g.files).Perm (vw K.files))(w:g.dM=[])(r:∀t,g.aO u t->z (G W)<=t)(s:I az W i):CL k i u mem h j g a b c d C tbqq N nx m e lsqq l:=by
 have f:=p.laid;have B:=f.steps.lt;have A:=f.pow.lt;have E:=s.size;have D:=p.ap.size;refine⟨f.again v (λF=>Rh f.aM.nodup x F) (by rw[w];exact bG _) (Steps.ap f.steps s id) (f.pow.ap s id) (λq=>by have:=r _ q;omega) (λq=>by have:=r _ q;omega),p.tid,p.sR,p.len,p.ap.bW s,λt q=>by have:=r t q;omega,λt q=>⟨λc=>?_,(p.cl t q).2.1,by have:=(p.cl t q).2.2;omega⟩,p.g0⟩;have:=r t c;have:=(p.cl t q).2.2;omega
theorem OQ(r:CL k W db mem h j K a b c d C tbqq N nx m e lsqq l):cD aZ 8 #[aA db] W λv i=>∃g f,v=aJ (aA g)/\(vw f.files).Perm (vw K.files)/\CL k i g mem h j f a b c d C tbqq N nx m e lsqq l/\I az W i:=by
 apply(Us r.laid.aM r.laid.bytes r.laid.aM.nodup).mono;rintro v i⟨g,f,rfl,s,p,u,t,q⟩;exact⟨g,f,rfl,p,r.copied s p u t q,q⟩
theorem JO{q:Func}{x:Tmp}(D:q.results=#[.cell x 33])(f:Array ab)(w:Z)(s:M)(A g:U)(B:TypeId)(r:M×M)(v:f.getD x ix=aA s)(t:w.heap[s]?=H (ay #[aq A,aq g] B r)):(results q f).run aZ w=.ok (dD #[aq A,aq g]) w:=by
 have p:f[x]?.getD ix=aA s:=by simpa using v
 have u:=kj (P:=aZ) w s B 33 #[aq A,aq g] r _ t underlying33 rfl (by kernel_rfl);simp[results,D,p,asAddr,u]
theorem PG(f T:U)(w:Z):cD aZ 18 #[aq f,aq T] w λq p=>(∃g t,q=aJ (dD #[aq g,aq t])/\1<=g/\g<=32/\2<=t/\t<=6)/\I az w p:=by
 have r:=FT f 32 (by omega) (by omega);have s:=FT T 5 (by omega) (by omega);go_in
 go_wp2;refine cg (JO rfl _ _ (z<|G w) (1+wrap64 ((IntKind.u64.wrap f).tmod 32)) (2+wrap64 ((IntKind.u64.wrap T).tmod 5)) _ _ rfl<|aH _ rfl) rfl ?_;exact⟨⟨_,_,rfl,by omega,by omega,by omega,by omega⟩,cK az w⟩
theorem IF{f:M}(L:yg k W db f mem h j C N l):cD aZ 41 #[aA f] W λF i=>∃D,F=aJ (dd #[D,aq 0])/\OW W i D l/\I (th k j) W i/\yg k i db f mem h j C N l:=by
 have p:=ON L ⟨#[]⟩ ⟨#[]⟩ 0;rw[EB]at p;clear L;go_in
 go_wp2_with fail
 apply p.mono;rintro F B⟨Q,rfl,g,t,s⟩;obtain⟨P,O,A⟩:=aC g;subst A;obtain⟨v,w,u⟩:=dz g t s;clear g t s p;go_wp2_with fail
 apply(kr B).mono;rintro F E⟨rfl,x⟩;have r:I az B E:=I.aQ x;go_wp2;go_ret2
 exact⟨_,rfl,r.own v<|λ_ _ q=>q,w.bW r,u.still r⟩
theorem JY{w:Z}{n:M}{A:ab}(v:w.heap[n]?=H (ay #[aw,aq 0,aK bj,aw] 49 (0,0)))(g:rJ w A []):cD aZ 42 #[aA n,A] w λs r=>s=aJ (aK ci)/\I az w r:=by
 have f:=qL g (show rJ w aw []from⟨rfl,.inl ⟨rfl,rfl⟩⟩) (by simp) (by simp);simp only[qR]at f;have E:=cellAt v 0 rfl;have c1:=cellAt v 1 rfl;obtain⟨D,B,c,p⟩:∃D B c,A=J D B c:=by rcases g.shape with s|⟨b,q,u,s⟩<;>exact⟨_,_,_,s⟩
 subst p;clear v g;go_in
 go_wp2;refine gF 1 ?_;rw[fT];go_wp2_with fail
 apply f.mono;rintro s r⟨rfl,F,t⟩;have x:I az w r:=by rw[t];exact je _ _ _
 clear t f;go_wp2;go_ret;exact⟨rfl,x⟩
end
section
variable{e W c:Z}{b db sbqq d:M}{mem a:U}{bv f sv:ab}{g:iF}{B:cS pS}{l:kK}{safe:U}{C N:M}
theorem XL.Vg{j:M}(k:XL e W b db d sv mem a bv f g B l safe C N)(m:I az W c)(o:Mf e c j mem a (Oi b d bv f g) C N l):BA c b db sv mem a d/\XL e (cA c (R b 0)<|aA j) b j d sv mem a bv f g B l safe C N:=by
 have h:BA c b db sv mem a d:=(m.block b (ar k.box) id).trans k.box;have p:=k.kX.ap m<|λ_ _=>id;have i:=io c b 0<|aA j;exact⟨h,(aL h).trans rfl,p.ap i<|λj q m=>k.Mb (by have n:j=b:=m;exact n▸q),o.nE i (λj q=>.inl q)<|λj q=>.inl q,k.Mb,k.zh,k.num⟩
theorem TL{i d:M}(j:W.heap[d]?=H (ay #[aw,aq 0,aK bj,aw] 49 (0,0))):HB i W d aw aw [] [] [] 0:=⟨j,cO _ _ _ _,λk _ _ _ h=>(by cases h),rfl,by simp,by simp,⟨rfl,.inl ⟨rfl,rfl⟩⟩,λk q=>(by cases q),rfl,by simp,λq=>by cases q⟩
theorem XS.Vp(k:XS e W b db sbqq d mem a bv f g B l [] safe C N)(w:I az W c){j:M}(P:z (G W)<=j)(o:c.heap[j]?=H (ay #[aw,aq 0,aK bj,aw] 49 (0,0))):BA c b db (aA sbqq) mem a d/\XS e (cA c (R b 4)<|aA j) b db sbqq j mem a aw aw [] [] [] [] 0 C N:=by
 have E:=k.still w;have Q:=ar k.box;have h:=E.box;have i:=io c b 4<|aA j;have p:j≠b:=by omega
 have t:I (λv=>v=b) W (cA c (R b 4)<|aA j):=(w.mono (T:=λv=>v=b) cC).trans i<|λ_ q=>.inl q;have n:j<z (G<|cA c (R b 4)<|aA j):=by rw[gN];exact ar o
 refine⟨h,(aL h).trans rfl,TL<|(i.block j (ar o)<|λD=>p D).trans o,k.cw.nE t (λv q=>⟨.inl q,?_⟩)<|λv q=>?_,?_,k.zh,by simp⟩;have D:v=b:=q;subst D;obtain⟨L,O,F⟩:=k.cw.iy;obtain⟨an,V,al,X,aa,ac,ad,A,x,m⟩:=k.cw;have s:=m.EP;refine⟨_,_,_,k.box,by decide,.inl λao q=>?_,λq K=>?_⟩;simp at q;(have r:q=db\/q=sbqq\/q=d:=by simpa using K);rcases r with rfl|rfl|rfl;exact⟨_,_,_,F,by decide⟩;exact⟨_,_,_,s,by decide⟩;exact⟨_,_,_,k.kX.box,by decide⟩;rcases q with q|q|q|q|⟨S,u,q⟩;exact .inl<|.inl q;exact .inr ⟨by omega,by rw[q];exact n⟩;cases q;cases q;cases u;rintro(q|q|q|⟨S,u,q⟩);omega;cases q;cases q;cases u
theorem MM{e W:Z}{b db d:M}{mem a:U}(h:XL e W b db d (dF none) mem a aw aw [] [] [] 0 0 0):cD aZ 19 #[aA b] W λbp c=>bp=aJ (aq 0)/\Md e c b mem a 0 1:=by
 have c0:=cellAt h.box 0 rfl;have bf:cD aZ 8 #[aA db] W λbp c=>∃p,bp=aJ (aA p)/\BA c b db (dF none) mem a d/\XL e (cA c (R b 0)<|aA p) b p d (dF none) mem a aw aw [] [] [] 0 0 0:=by obtain⟨cl,cm,cn,co,cp,ca,nx,lg,ac,bT,hc⟩:=h.cl;apply(OQ hc).mono;rintro bp c⟨p,K',rfl,_,bs,ht⟩;exact⟨p,rfl,h.Vg ht ⟨_,_,_,_,_,_,_,_,_,_,bs⟩⟩
 have HX:=Y h;clear h;go_in
 go_wp2_with fail
 apply bf.mono;rintro bp W1⟨p,rfl,P,aV⟩;have c0:=cellAt P 0 rfl;have g0:=cZ (i:=0) P;have K:=Y aV;clear aV bf HX;go_wp2_with fail
 rename_i KK aF;obtain⟨r,L⟩:∃r,cA W1 (R b 0) (aA p)=r:=⟨_,rfl⟩;rw[L]at K;rw[L];have k:=Y<|K.still<|cR az r;clear L c0 g0 P K;have e0:=cellAt k.box 0 rfl;have e2:=cellAt k.box 2 rfl;have e3:=cellAt k.box 3 rfl;have bk:=IE k.cl k.zh (by omega);have aU:aS r.drew (R b 0)=H (aA p)/\aS r.drew (R b 2)=H (aq mem)/\aS r.drew (R b 3)=H (aq a):=⟨e0,e2,e3⟩;refine dL (λn=>aS n (R b 0)=H (aA p)/\aS n (R b 2)=H (aq mem)/\aS n (R b 3)=H (aq a)) 13 (by kernel_rfl) ?_;refine eR 0 ?_;iterate 8 (refine iC (v:=?_) aU rfl (by kernel_rfl) ma rfl ?_ ?_;rotate_left;(focus(rintro n⟨z0,z1,z2⟩;go_simp;try rfl));simp only[Act.put,eF,jx,Nat.reduceAdd])
 apply ig;refine bC (i:=8) rfl rfl (by kernel_rfl) ?_;intro K8 aD;go_simp;apply bk.mono;rintro bp W6⟨rfl,ce,X,Q⟩;obtain⟨u,_⟩:=k.opened X Q (by omega);have s:aS W6 (R b 0)=H (aA p)/\aS W6 (R b 2)=H (aq mem)/\aS W6 (R b 3)=H (aq a):=⟨cellAt u 0 rfl,cellAt u 2 rfl,cellAt u 3 rfl⟩;refine aD _ _ (λ_=>s) ?_;try simp only[Act.put,eF,jx]
 clear aD bk;refine eR 9 ?_;iterate 3 (refine iC (v:=?_) s rfl (by kernel_rfl) ma rfl ?_ ?_;rotate_left;(focus(rintro n⟨z0,z1,z2⟩;go_simp;try rfl));simp only[Act.put,eF,jx,Nat.reduceAdd])
 apply ig;refine bC (i:=12) rfl rfl (by kernel_rfl) ?_;intro cb x;go_simp;refine x _ _ (λ_=>s) ?_;try simp only[Act.put,eF,jx]
 clear x;refine bC (i:=13) rfl rfl (by kernel_rfl) ?_;intro cc A;go_simp;refine A _ _ Fc ?_;try simp only[Act.put,eF,jx]
 clear A s aU;refine eN (by kernel_rfl) ?_ _;show KK _ _;apply aF;clear aF;have F:=Y<|And.intro X Q;obtain⟨sbqq,V⟩:∃sbqq,z (G r.drew)+2=sbqq:=⟨_,rfl⟩;have bE:∀w:Z,(binOp .eql 31 (aA sbqq)<|dF none).run aZ w=.ok (aK bj) w:=λ_=>rfl;rw[V]at F;have D:z (G r)+2=sbqq:=V;clear u X Q e0 e2 e3;rw[D];clear V D;go_wp2_with fail
 apply(kr W6).mono;rintro bp W7⟨rfl,bc⟩;have w:I az W6 W7:=I.aQ bc;obtain⟨E,o⟩:=af F;have bg:=IF<|o.still w;have ad:=Y<|And.intro (E.bW w) (o.still w);clear E o F w bc;go_wp2_with fail
 apply bg.mono;rintro bp W8⟨v8,rfl,T,bn,S⟩;have t:I (th e<|Oi b d aw aw []) r.drew W8:=ad.1.trans bn<|λ_ q=>.inl q;obtain⟨gx,gc,bt⟩:=aC T;subst bt;obtain⟨bd,_⟩:=k.opened t S (by omega);have c4:=cellAt bd 4 rfl;have bi:=k.kX.ap t<|λck j q=>q.2<|.inr j;have bl:=JY bi.box<|dE T;obtain⟨ao,al⟩:=And.intro (Y t) (Y S);clear t S bn T bg bd bi ad;go_wp2_with fail
 apply bl.mono;rintro bp W9⟨rfl,aa⟩;obtain⟨m,ba⟩:=k.opened (ao.bW aa) (al.still aa) (by omega);have c1:=cellAt m 1 rfl;have g1:=cZ (i:=1) m;have bu:=ar m;obtain⟨br,j⟩:=ba.Vp (cK az _) (ai _)<|aH (ay #[aw,aq 0,aK bj,aw] 49) rfl;have c4:=cellAt m 4 rfl;have g4:=cZ (i:=4) m;rw[gN,World.setCell_alloc_past _ _ _ _ (by rw[gN];exact bu)]at j;have au:=Y j;clear bl ao al aa j ba m br;go_wp2_with fail
 obtain⟨WA,O⟩:∃WA,cG (cA (cA W9 (R b 1)<|aA sbqq) (R b 4)<|aA<|z<|G W9) (ay #[aw,aq 0,aK bj,aw] 49)=WA:=⟨_,rfl⟩;obtain⟨cj,hg⟩:∃cj,z (G W9)=cj:=⟨_,rfl⟩;have j:=af au;rw[O,hg]at j;rw[O];have c4:=cellAt j.box 4 rfl;have bh:=Gl j.kX aw [] ci (.inl ⟨⟨rfl,.inl ⟨rfl,rfl⟩⟩,λck q=>by cases q⟩) rfl (by simp) (by simp) j.cw.ap.size;obtain⟨av,an⟩:=And.intro (Y j) (Y bh);clear j bh au O hg c1 g1 g4;refine gF 1 ?_;rw[fT];go_wp2_with fail
 apply an.mono;rintro bp WB⟨rfl,cd,ch,v',bx,ax,bo,bm⟩;have bb:=av.TK bo ax bm (by simp);have bq:=Y bb;clear bb ax bo bm an av;go_wp2;go_ret;exact⟨rfl,_,_,_,_,_,_,_,_,_,bq⟩
end
def Ul(s:Md a f b k D c g)(h:U)(x:Option Addr)(d:pS)(o:M)(B:Cz a (J x (y d) o) d)(C:∀l∈d,l.key.size<=140737488351232/\l.val.size<=140737488351232)(L:y d<=100000000)(A:c+mj d<=1000000)(m:g+1<=100000000):cD aZ 20 #[aA b,dD #[aq h,J x (y d) o]] f λr e=>r=aJ (dd #[aq 0,aK bj])/\Md a e b k D (c+mj d) (g+1):=by
 have n:∀{e:Z}{h:M},h<=g+1->Md a e b k D c h->Md a e b k D (c+mj d) (g+1):=λp q=>by obtain⟨F,j,K,E,N,O,P,Q,i,q⟩:=q;exact⟨F,j,K,E,N,O,P,Q,i,q.mono (by omega) A p m⟩
 by_cases t:h=2;subst t;exact(IB s x (y d) o m).mono<|λr e q=>⟨q.1,n (ai _) q.2⟩;by_cases u:h=3;subst u;exact(NJ s x (y d) o m).mono<|λr e q=>⟨q.1,n (ai _) q.2⟩;by_cases v:h=4;subst v;exact(Uk s x d o B C).mono<|λr e q=>⟨q.1,n (Nat.le_succ _) q.2⟩;by_cases w:h=5;subst w;exact(Rs s x (y d) o).mono<|λr e q=>⟨q.1,n (Nat.le_succ _) q.2⟩;exact NI s h x d o ⟨t,u,v,w⟩ B C L A m
theorem IK{a:pS}(q:lz a=0):∀x∈a,1<=x.key.size:=by
 induction a with
 |nil=>simp
 |cons c a b=>
  unfold lz at q;grind
def VI(a:pS):2*mj a<=GO a:=by
 unfold mj;by_cases q:fJ a=0
 .rw[dV q];have b:∀x∈a,1<=x.key.size:=by
   unfold fJ at q;grind[IK]
  clear q;induction a with
  |nil=>simp
  |cons d a c=>
   have e:=b d (by simp);have f:=c<|λx a=>b x<|dC _ a;unfold GO at*;grind
 grind
def Xb(a:pS):y a<=GO a:=by
 induction a with
 |nil=>simp
 |cons c a b=>
  unfold GO at*;simp;omega
def XL.new(e:BA f b c (dF none) k D g)(p:f.heap[g]?=H (ay #[aw,aq 0,aK bj,aw] 49 (0,0)))(s:cH f c (iM m))(j:I az a f)(d:∀o,(iM m).aO c o->z (G a)<=o/\o≠b/\o≠g)(n:z (G a)<=b/\z (G a)<=g/\b≠g)(t:1<=k/\k<=32/\2<=D/\D<=6)(i:Steps a)(h:Pow a)(r:ou a):XL a f b c g (dF none) k D aw aw [] [] [] 0 0 0:=by
 have u:=i.lt;have v:=h.lt;refine⟨e,TL p,⟨iM m,[],[],[],[],0,2,1,bj,[],KF s (Steps.ap i j id) (h.ap j id) (λq=>by have:=(d _ q).1;omega) (λq=>by have:=(d _ q).1;omega),⟨by simp;omega,?_⟩,Uu (by simp[bY,gp,bZ,jO,mT]),by simp,j,λo q=>(d o q).1,λo q=>?_,i,h,r⟩,?_,t,by simp⟩;simp[US];omega;rcases q with rfl|rfl|q|q|⟨w,l,q⟩;exact⟨λh=>(d _ h).2.1 rfl,n.1,ar e⟩;exact⟨λh=>(d _ h).2.2 rfl,n.2.1,ar p⟩;cases q;cases q;cases l;rintro(q|q|q|⟨w,l,q⟩);exact n.2.2 q;cases q;cases q;cases l
def Nx(ds:Option Addr)(b:cS LW)(Q:M)(W bu:U)(e:b=[]\/∃bd c,ds=H (R bd c)/\EI a (aY bd c (y b) Q) b)(bs:y b+Cs b<=1048576)(aF:I az a f)(hS:Steps a)(hP:Pow a)(hE:ou a):cD aZ 6 #[J ds (y b) Q,aq W,aq bu] f λbg W'=>∃O db o hb l d bv pv vs br bt m bx,bg=aJ (dd #[aA O,aK ci])/\XL a W' O db hb (aA o) l d bv pv vs br bt m 524288 bx:=by
 have ax:=wJ f;have aD:=PG W bu;obtain⟨HS,HP,HE⟩:=dz hS hP hE;have V:=Y aF;clear hS hP hE aF;go_in
 go_wp2_with fail
 apply ax.mono;rintro bg W1⟨rfl,ao,ad⟩;have p:=Y ao;have u:=Y ad;clear ao ad ax;go_wp2_with fail
 apply(aD W1).mono;rintro bg w⟨⟨l,d,rfl,ho⟩,aU⟩;have v:=Y aU;have HO:=Y ho;clear aU ho aD;go_wp2_with fail
 obtain⟨P,g⟩:∃P,cG (cG w<|ay #[aw,aq 0,aK bj,aw] 49) (ay #[aA<|z (G f)+2,dF none,aq l,aq d,aA<|z<|G w] 36)=P:=⟨_,rfl⟩;have N:I az W1 P:=by rw[<-g];exact v.bW<|(cK az w).alloc _
 have bb:I az a P:=(V.bW<|I.aQ (S:=az) u).bW N;have bn:=V.size;have bo:=u.size;have bp:=v.size;have av:=ar p.iy;have an:BA P (z (G w)+1) (z (G f)+2) (dF none) l d (z<|G w):=by unfold BA;rw[<-g];exact aH _<|by simp
 have al:P.heap[z<|G w]?=H (ay #[aw,aq 0,aK bj,aw] 49 (0,0)):=by rw[<-g];grind[eU,aH]
 have au:∀bc,(iM<|z<|G f).aO (z (G f)+2) bc->z (G f)<=bc/\bc<z (G W1):=λbc q=>by refine⟨?_,p.lt bc q⟩;rcases q with Q|Q|Q|Q|⟨x,j,Q⟩|⟨bd,i,Q⟩;omega;have:bc=z (G f):=Q;omega;have:bc=z (G f)+1:=Q;omega;cases Q;cases j;cases i
 have aa:=XL.new an al (p.ap N<|λ_ _=>id) bb (λbc q=>by have:=au bc q;omega) (by omega) HO HS HP HE;obtain⟨O,K⟩:∃O,z (G w)+1=O:=⟨_,rfl⟩;have E:=MM aa;rw[K]at E;rw[g,K];clear g N bb bn bo bp av an al au aa K p u v;apply E.mono;rintro bg W4⟨rfl,ac⟩;have bf:=Y ac;clear ac E;go_wp2_with fail
 go_loopw [10,11] (λok i wr=>ok=aK ci/\∃n:M,n<=y b/\i=aq n/\∃bq,2*bq<=Cs (b.take n)/\Md a wr O l d bq (n+1)) (λ_ i _=>y b-(intOf i).toNat)
 case atStart=>exact⟨rfl,0,bG _,rfl,0,by omega,bf⟩
 (case round=>obtain⟨rfl,n,hn,rfl,bq,hC,x⟩:=hrel;by_cases j:n<y b;(.rcases e with rfl|⟨bd,c,rfl,e⟩;simp at j;(·(have e1:(n:U)<(y b:U):=by omega);have k:=ak j;have aV:=e.YD _ k;have B:=e.Rz _ k;have bl:=Ji b n j;have bk:=RY b<|n+1;have bh:=VI b[n].cs;have bi:=Xb b[n].cs;have bm:Yk b[n]=GO b[n].cs:=rfl;have C:bd<z (G a):=e.lt bd rfl;(have F:I az a wr:=by obtain⟨db,o,hb,bv,pv,vs,br,bt,m,h⟩:=x;exact h.cw.ap);(have A:aS wr (R bd<|c+n*2)=H (aq b[n].kd)/\aS wr (R bd<|c+n*2+1)=H b[n].L:=by obtain⟨q1,⟨L,q0⟩|⟨g',ba,X,L,D,hc⟩⟩:=e.row;cases L;cases L;exact⟨F.cell (hc _ _<|(rP b n j 0<|by omega).trans rfl) id C,by rw[bF];exact F.cell (hc _ _<|(rP b n j 1<|by omega).trans rfl) id C⟩);(have D:y b<=Q:=by obtain⟨q1,⟨L,q0⟩|⟨g',ba,X,L,D,hc⟩⟩:=e.row;cases L;cases L;exact D);obtain⟨c0,c1⟩:=A;obtain⟨lx,lc,hL⟩:=xN B;have s:=Ul x b[n].kd lx b[n].cs lc (by rw[<-hL];exact B) aV (by omega) (by omega) (by omega);rw[<-hL]at s;(have t:2*(bq+mj b[n].cs)<=Cs (b.take<|n+1):=by omega);rw[hL]at c1 s;generalize b[n].kd=kd at*;have T:=Y t;clear t bl bk bh bi bm k aV B hL x C F;(go_wp2_with fail);apply s.mono;rintro bg W5⟨rfl,i⟩;have r:=Y i;clear i s c0 c1;go_wp2;go_roundw;(case rel=>exact⟨by first|rfl|simp,n+1,by omega,by go_num,_,T,r⟩);case measure=>simp[intOf];omega));(have L:n=y b:=by omega);subst L;rw[bL]at hC;obtain⟨db,o,hb,bv,pv,vs,br,bt,m,x⟩:=x;have k:=x.mono (C':=524288) (N':=y b+1) (by omega) (by omega) (ai _) (by omega);have c1:=cellAt k.box 1 rfl;have C:=Lr k.cw;have s:=Y k;clear x k hC e;(go_wp2_with fail);apply C.mono;rintro bg W5⟨rfl,D,B⟩;have i:=s.closed D B;have r:=Y i;clear i D B C s;(go_wp2_with fail);apply(kr W5).mono;rintro bg T⟨rfl,A⟩;have t:=r.still<|I.aQ A;have F:=Y t;clear t A r;go_wp2;(go_ret2);exact⟨O,_,_,_,_,_,_,_,_,_,_,_,_,rfl,F⟩)
