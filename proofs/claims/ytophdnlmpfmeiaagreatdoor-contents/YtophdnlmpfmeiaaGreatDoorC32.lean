import Derived.Test.YtophdnlmpfmeiaaGreatDoorC29
namespace Go.Proofs.YtophdnlmpfmeiaaGreatDoor
open ChangeShapes WideShapes RowKit Proofs.Tryz
set_option maxHeartbeats 16000000
set_option linter.all false
set_option maxRecDepth 100000
def Ar(a:Nat)(b:List ar):M->Prop:=λx=>x=.string eS\/x=.string (fM a)\/∃t∈b,x=.string (eM t.num)
def lI{P:Program}{s:Oper}{e:Act}{w:J}{K:Act->J->Prop}{Q:Exit->Act->J->Prop}(g x h:Operand)(z:TypeId)(d:s.op=Op.insert z g x h)(y A:TypeId)(p:P.underlying z=some (.map y A))(l:TypeDesc)(n:P.underlying y=some l)(k:Nat)(f:M->Prop)(o:e.eval g=.map (some k))(B:jd w k l f)(a:M)(c:MapKept.IsKey l a)(r:e.eval x=a)(q:e.eval h=.agg #[])(m:∀w',jd w' k l (λx=>f x\/x=a)->w.grownBy w' (some k)->K (e.put s.dst undef) w'):Oper.wp P s e w K Q:=by
 obtain⟨w',b,t,u,_⟩:=uk p n B a c;unfold Oper.wp;simp[execOp,d,o,r,q,b,Result.andThen];exact m w' t u
def zj(w:J)(sb:Nat)(A:SR)(k:Int)(bk:DK)(bn bo m bp:List ar)(X:bX w sb A k)(H:xQ w sb 10 [(A.l0,bn),(A.l1,bo),(A.l2,m),(A.l3,bp)])(hT:∀bl∈bn++bo++m++bp,Kd w bl)(hp:Pow w)(ch:A.log<18446744073709551616)(ck:(bn++bo++m++bp).length<=10000000)(bd:bR w A.aH bk)(ce:bk.files.length<=100000000)(hn:∀z∈bk.files.map bY.name,z=eS\/z=fM A.log\/∃bl∈bn++bo++m++bp,z=eM bl.num):Calls prog 85 #[.pointer (some ⟨sb,0,none⟩)] w λn w'=>n=.returned (.slice none 0 0)/\I (λ_=>False) w w':=by
 obtain⟨u0,cl,cs,ds,dv⟩:=bK zr;have dc:=@sx prog;have cx:∀(z:Bool)(w:J),(Op.unary .not (.bool z)).run prog w=.ok (.bool (!z)) w:=λ_ _=>rfl;have K:∀W,I (λ_=>False) w W->Calls prog 75 #[.int .u64 A.log] W λn w'=>n=.returned (.string (fM A.log))/\Below W.heap.size W w':=λW C=>rJ A.log ch W (hp.ay C id);have y:∀W,I (λ_=>False) w W->Calls prog 132 #[.pointer (some ⟨sb,10,none⟩)] W λn w'=>∃v',n=.returned v'/\w'.ownsRow W.heap.size 199 1 v' (bn++bo++m++bp).length ((bn++bo++m++bp).map ar.ptr)/\I (λ_=>False) W w':=λW C=>by
  have d:xQ W sb 10 [(A.l0,bn),(A.l1,bo),(A.l2,m),(A.l3,bp)]:=⟨H.len,λi a=>C.cell (H.cell i a) id H.lt,λi a=>C.row (H.row i a) (λq b=>⟨id,H.lM i a q b⟩),λi a q b=>ah (H.lM i a q b) C.size,H.small⟩;have:=oh W sb 10 _ d;rw[Ha,Ib]at this;exact this
 have bf:∀W,I (λ_=>False) w W->Calls prog 79 #[.pointer (some ⟨A.aH,0,none⟩)] W λn w'=>∃v' r,n=.returned v'/\List.Perm r (bk.files.map bY.name)/\w'.ownsRow W.heap.size 9 1 v' r.length (strs r)/\I (λ_=>False) W w':=λW C=>zi A.aH bk W (bd.ay C (λ_ _=>id)) ce;have bi:=ak X;have c2:w.cell? ⟨sb,2,none⟩=some (.pointer (some ⟨A.aH,0,none⟩)):=X.cell rfl;have cb:w.cell? ⟨sb,15,none⟩=some (.int .u64 A.log):=X.cell rfl;obtain⟨T,bb⟩:∃T,bn++bo++m++bp=T:=⟨_,rfl⟩;rw[bb]at hT y ck hn;have ac:=Z hT;have HP:=Z hp;have HN:=Z hn;have u:=Z K;have an:=Z y;have br:=Z bf;clear X hT hp hn K y bf H bd bb;generalize A.log=e at*;generalize A.aH=db at*;go_enter func85,ntmps85
 go_wp2_with fail
 rename_i QQ KK ba;refine bM (λcv=>cv.cell? ⟨sb,15,none⟩=some (.int .u64 e)) 11 (by kernel_rfl) ?_;have P:∀W,I (λ_=>False) w W->W.cell? ⟨sb,15,none⟩=some (.int .u64 e):=λW C=>C.cell cb id bi;have U:I (λ_=>False) w w.drew:=bS _ w;have B:=P _ U;have dn:w.drew.heap.size=w.heap.size:=rfl;have f:=Z P;have ao:=Z U;clear P U;refine da (i:=1) (v:=?_) rfl rfl (by kernel_rfl) (by kernel_rfl) (by kernel_rfl) (by kernel_rfl) (λ_ _ _ X=>X) (Or.inl ⟨by rfl,?_⟩) B ?_;rotate_left
 ·rintro cv z0;go_simp;try with_reducible rfl
 simp only[Act.put,ab,ae,af,av,am,ap];refine cz 3 ?_;iterate 4 (refine cy (v:=?_) B rfl (by kernel_rfl) (λ_ _ _ X=>X) (Or.inl ⟨by rfl,?_⟩) ?_;rotate_left;(focus(rintro cv z0;go_simp;try with_reducible rfl));simp only[Act.put,Nat.reduceAdd,ab,ae,af,av,am,ap])
 refine dG ?_;refine da (i:=8) (v:=?_) rfl rfl (by kernel_rfl) (by kernel_rfl) (by kernel_rfl) (by kernel_rfl) (λ_ _ _ X=>X) (Or.inl ⟨by rfl,?_⟩) B ?_;rotate_left
 ·rintro cv z0;go_simp;try with_reducible rfl
 simp only[Act.put,ab,ae,af,av,am,ap];refine pK (α:=Nat) (λb W=>I (λ_=>False) w W/\w.heap.size<=b/\jd W b .string (λz=>z=.string ⟨#[115,116,97,116,101]⟩\/z=.string (fM e))) (λb=>{tmps:=#[.pointer (some ⟨sb,0,none⟩),undef,.slice none 0 0,undef,undef,undef,undef,undef,undef,undef,undef,.map (some b),.agg #[],.pointer (some ⟨sb,0,none⟩),.pointer (some ⟨sb,0,none⟩),.pointer (some ⟨sb,15,none⟩),.int .u64 e,.string (fM e),.agg #[],undef,undef,undef,undef,undef,undef,undef,undef,undef,undef,undef,undef,undef,undef,undef,undef,undef,undef,undef,undef,undef,undef,undef,undef,undef,undef,undef,undef,undef,undef,undef,undef,undef,undef,undef,undef,undef,undef,undef,undef,undef,undef,undef],defers:=[]}) #[true,true,true,true,true,true,true,true,true,true,false,false] 2 ?_ ?_
 ·intro V;refine pK (α:=Nat) (λb W=>I (λ_=>False) w W/\w.heap.size<=b/\jd W b .string (λ_=>False)) (λb=>{tmps:=#[.pointer (some ⟨sb,0,none⟩),undef,.slice none 0 0,undef,undef,undef,undef,undef,undef,undef,undef,.map (some b),.agg #[],.pointer (some ⟨sb,0,none⟩),.pointer (some ⟨sb,0,none⟩),.pointer (some ⟨sb,15,none⟩),.int .u64 e,.string (fM e),.agg #[],undef,undef,undef,undef,undef,undef,undef,undef,undef,undef,undef,undef,undef,undef,undef,undef,undef,undef,undef,undef,undef,undef,undef,undef,undef,undef,undef,undef,undef,undef,undef,undef,undef,undef,undef,undef,undef,undef,undef,undef,undef,undef,undef],defers:=[]}) #[true,true,false,true,true,true,true,true,true,false,false,false] 4 ?_ ?_
  ·intro N;refine oN (i:=0) (j:=7) rfl rfl rfl rfl (by kernel_rfl) ?_ ?_
   ·intro bk O;go_simp;have q:=(jd.new w .string).dh (w':=(w.alloc (.map #[] 0)).drew) rfl;have x:I (λ_=>False) w (w.alloc (.map #[] 0)).drew:=((I.refl (λ_=>False) w).alloc _).of_heap rfl;refine O _ _ (λ_=>(Y f) _ x) ?_;try simp only[Act.put,ab,ae,af,av,am,ap]
    generalize(w.alloc (.map #[] 0)).drew=W1 at*;refine oN (i:=2) (j:=7) rfl rfl rfl rfl (by kernel_rfl) ?_ ?_
    ·intro K2 l;try simp only[av,am,ap]
     refine lI (.tmp 11) (.const (.string ⟨#[115,116,97,116,101]⟩)) (.tmp 12) 244 rfl 9 94 underlying244 .string underlying9 w.heap.size _ rfl q (.string ⟨#[115,116,97,116,101]⟩) trivial rfl rfl ?_;intro w5 h o;have d:I (λ_=>False) w w5:=x.trans (I.bz (S:=λk=>k=w.heap.size) o (by rintro k⟨⟩;exact .inl rfl)) (λk n=>.inr (by have:k=w.heap.size:=n;omega));refine l _ _ (λ_=>(Y f) _ d) ?_;try simp only[Act.put,ab,ae,af,av,am,ap]
     refine aI (i:=7) rfl rfl (by kernel_rfl) ?_;intro K3 bg;go_simp;refine((Y u) _ d).mono ?_;rintro n t⟨rfl,p⟩;have c:I (λ_=>False) w t:=d.trans (I.aR (S:=λ_=>False) p) (λ_ m=>m.elim);have D:=h.dh (p.block _ h.lt);refine bg _ _ (λ_=>(Y f) _ c) ?_;try simp only[Act.put,ab,ae,af,av,am,ap]
     refine aI (i:=9) rfl rfl (by kernel_rfl) ?_;intro K4 bh;try simp only[av,am,ap]
     refine lI (.tmp 11) (.tmp 17) (.tmp 18) 244 rfl 9 94 underlying244 .string underlying9 w.heap.size _ rfl D (.string (fM e)) trivial rfl rfl ?_;intro w7 bc ax;have E:I (λ_=>False) w w7:=c.trans (I.bz (S:=λk=>k=w.heap.size) ax (by rintro k⟨⟩;exact .inl rfl)) (λk n=>.inr (by have:k=w.heap.size:=n;omega));refine bh _ _ (λ_=>(Y f) _ E) ?_;exact ie (V w.heap.size _ ⟨E,ai _,bc.congr (λz=>by simp)⟩) (by kernel_rfl)
    ·intro K2 l;go_simp;refine((Y u) _ x).mono ?_;rintro n t⟨rfl,p⟩;have c:I (λ_=>False) w t:=x.trans (I.aR (S:=λ_=>False) p) (λ_ m=>m.elim);have D:=q.dh (p.block _ q.lt);refine l _ _ (λ_=>(Y f) _ c) ?_;try simp only[Act.put,ab,ae,af,av,am,ap]
     exact ie (N w.heap.size _ ⟨c,ai _,D⟩) (by kernel_rfl)
   ·intro bk O;go_simp;refine((Y u) _ (Y ao)).mono ?_;rintro n t⟨rfl,p⟩;have c:I (λ_=>False) w t:=(Y ao).trans (I.aR (S:=λ_=>False) p) (λ_ m=>m.elim);refine O _ _ (λ_=>(Y f) _ c) ?_;try simp only[Act.put,ab,ae,af,av,am,ap]
    refine aI (i:=0) rfl rfl (by kernel_rfl) ?_;intro K2 l;go_simp;have q:=c.alloc (.map #[] 0);refine l _ _ (λ_=>(Y f) _ q) ?_;try simp only[Act.put,ab,ae,af,av,am,ap]
    exact ie (N t.heap.size _ ⟨q,c.size,jd.new t .string⟩) (by kernel_rfl)
  ·rintro b W⟨s,Q,a⟩;refine oN (i:=2) (j:=9) rfl rfl rfl rfl (by kernel_rfl) ?_ ?_
   ·intro bk O;try simp only[av,am,ap]
    refine lI (.tmp 11) (.const (.string ⟨#[115,116,97,116,101]⟩)) (.tmp 12) 244 rfl 9 94 underlying244 .string underlying9 b _ rfl a (.string ⟨#[115,116,97,116,101]⟩) trivial rfl rfl ?_;intro w5 h o;have d:I (λ_=>False) w w5:=s.trans (I.bz (S:=λk=>k=b) o (by rintro k⟨⟩;exact .inl rfl)) (λk n=>.inr (by have:k=b:=n;omega));refine O _ _ (λ_=>(Y f) _ d) ?_;try simp only[Act.put,ab,ae,af,av,am,ap]
    refine aI (i:=9) rfl rfl (by kernel_rfl) ?_;intro K2 l;try simp only[av,am,ap]
    refine lI (.tmp 11) (.tmp 17) (.tmp 18) 244 rfl 9 94 underlying244 .string underlying9 b _ rfl h (.string (fM e)) trivial rfl rfl ?_;intro t x q;have p:I (λ_=>False) w t:=d.trans (I.bz (S:=λk=>k=b) q (by rintro k⟨⟩;exact .inl rfl)) (λk n=>.inr (by have:k=b:=n;omega));refine l _ _ (λ_=>(Y f) _ p) ?_;exact ie (V b _ ⟨p,Q,x.congr (λz=>by simp)⟩) (by kernel_rfl)
   ·intro bk O;try simp only[av,am,ap]
    refine lI (.tmp 11) (.tmp 17) (.tmp 18) 244 rfl 9 94 underlying244 .string underlying9 b _ rfl a (.string (fM e)) trivial rfl rfl ?_;intro w5 h o;have d:I (λ_=>False) w w5:=s.trans (I.bz (S:=λk=>k=b) o (by rintro k⟨⟩;exact .inl rfl)) (λk n=>.inr (by have:k=b:=n;omega));refine O _ _ (λ_=>(Y f) _ d) ?_;try simp only[Act.put,ab,ae,af,av,am,ap]
    refine aI (i:=2) rfl rfl (by kernel_rfl) ?_;intro K2 l;try simp only[av,am,ap]
    refine lI (.tmp 11) (.const (.string ⟨#[115,116,97,116,101]⟩)) (.tmp 12) 244 rfl 9 94 underlying244 .string underlying9 b _ rfl h (.string ⟨#[115,116,97,116,101]⟩) trivial rfl rfl ?_;intro t x q;have p:I (λ_=>False) w t:=d.trans (I.bz (S:=λk=>k=b) q (by rintro k⟨⟩;exact .inl rfl)) (λk n=>.inr (by have:k=b:=n;omega));refine l _ _ (λ_=>(Y f) _ p) ?_;exact ie (V b _ ⟨p,Q,x.congr (λz=>by simp only[false_or];exact Or.comm)⟩) (by kernel_rfl)
 rintro b W⟨s,Q,a⟩;refine da (i:=10) (v:=?_) rfl rfl (by kernel_rfl) (by kernel_rfl) (by kernel_rfl) (by kernel_rfl) (λ_ _ _ X=>X) (Or.inl ⟨by rfl,?_⟩) ((Y f) _ s) ?_;rotate_left
 ·rintro cv z0;go_simp;try with_reducible rfl
 simp only[Act.put,ab,ae,af,av,am,ap];refine aI (i:=11) rfl rfl (by kernel_rfl) ?_;intro cB G;go_simp;refine G _ _ (λm=>(m rfl).elim) ?_;refine cr (by kernel_rfl) ?_ _;show KK _ _;refine ba _ _ ?_;have L:=a.lt;have g:=Z a;have al:=Z s;clear a s G ba B;go_wp2_with fail
 refine((Y an) W (Y al)).mono ?_;rintro n t⟨v6,rfl,R,c⟩;obtain⟨x6,c6,cm⟩:=aC R;subst cm;have bv:=Z ((Y g).dh (c.block _ L id));have bT:=Z ((Y al).trans c (λ_ m=>m.elim));have ad:=Z R;have bs:=Z (show b<W.heap.size from L);have D:=c.size;clear R c g;go_wp2_with fail
 go_loopw [25] (λi wr=>∃F:Nat,F<=T.length/\i=.int .i64 F/\jd wr b .string (Ar e (T.take F))/\I (λk=>k=b) t wr) (λi _=>T.length-(intOf i).toNat)
 case atStart=>exact⟨0,aU _,rfl,(Y bv).congr (λz=>by unfold Ar eS;simp),I.refl _ _⟩
 case round=>
  obtain⟨F,hn,rfl,a,d⟩:=hrel;have x:I (λ_=>False) w wr:=(Y bT).trans d (λk c=>.inr (by have:k=b:=c;omega));by_cases l:F<T.length
  ·have h:=d.own (Y ad) (λk c m=>by have:=((Y ad).lt k c).1;have:=Y bs;have:k=b:=m;omega);obtain⟨b6,bt,bc⟩:∃b6,x6=some ⟨b6,0,none⟩/\wr.cell? ⟨b6,F,none⟩=some T[F].ptr:=by
    rcases h.2 with⟨h2,h0⟩|⟨cM,cc,cd,h2,_⟩
    ·omega
    ·cases h2;refine⟨cM,rfl,?_⟩;have:=lH h F T[F].ptr (by rw[cP,aA l];rfl);rwa[ct,cw]at this
   subst bt;have N:=((Y ac) T[F] (au l)).ay x|>.name ((Y HP).ay x id);have bh:=Z (show∀z,Ar e (T.take (F+1)) z↔Ar e (T.take F) z\/z=Value.string (eM T[F].num)fromλz=>by
    unfold Ar;rw[aq l];simp only[aw,bE];constructor
    ·rintro(m|m|⟨bl,ht|rfl,n⟩)
     ·exact .inl (.inl m)
     ·exact .inl (.inr (.inl m))
     ·exact .inl (.inr (.inr ⟨bl,ht,n⟩))
     ·exact .inr n
    ·rintro((m|m|⟨bl,ht,n⟩)|n)
     ·exact .inl m
     ·exact .inr (.inl m)
     ·exact .inr (.inr ⟨bl,.inl ht,n⟩)
     ·exact .inr (.inr ⟨_,.inr rfl,n⟩))
   have o:=a.lt;have g:=Z a;have p:=Z d;have e1:(F:Int)<(T.length:Int):=by omega
   clear a d x h;unfold ar.ptr at bc;generalize eM T[F].num=nm at*;generalize T[F].tb=tb at*;go_wp2_with fail
   refine N.mono ?_;rintro n w7⟨rfl,q⟩;have ax:=Z ((Y g).dh (q.block b o));have bq:=Z ((Y p).trans (I.aR (S:=λ_=>False) q) (λ_ m=>m.elim));clear q N;go_wp2_with(at_mapUpdate;refine qc _ rfl _ _ _ 244 rfl 9 94 underlying244 .string underlying9 b _ rfl (Y ax) (.string nm) trivial rfl rfl ?_;intro w8 O E;have bg:=Z O;have V:=Z E;clear O E)
   go_roundw;case rel=>exact⟨F+1,l,by go_num,(Y bg).congr (Y bh),(Y bq).trans (I.bz (S:=λk=>k=b) (Y V) (by rintro k⟨⟩;exact .inl rfl)) (λ_ m=>.inl m)⟩
   case measure=>simp[intOf];omega
  ·have bg:F=T.length:=by omega
   rw[bg,bD]at a;have e1:¬(F:Int)<(T.length:Int):=by omega
   have o:=a.lt;have cE:wr.cell? ⟨sb,2,none⟩=some (.pointer (some ⟨db,0,none⟩)):=x.cell c2 id bi;have g:=Z a;have ax:=Z x;clear a d bg;go_wp2_with fail
   refine((Y br) wr (Y ax)).mono ?_;rintro n w9⟨v9,r,rfl,O,N,E⟩;obtain⟨x9,c9,cn⟩:=aC N;subst cn;have dk:r.length<=100000000:=by have:=O.length_eq;simp at this;omega
   have bx:=Z ((Y g).dh (E.block b o id));have bt:=Z N;have ca:=Z ((Y ax).trans E (λ_ m=>m.elim));have bq:=Z (show∀z∈r,Ar e T (.string z)fromλz q=>by
    rcases(Y HN) z (O.mem_iff.1 q)with n|n|⟨bl,ht,n⟩
    ·exact .inl (by rw[n])
    ·exact .inr (.inl (by rw[n]))
    ·exact .inr (.inr ⟨bl,ht,by rw[n]⟩))
   have cj:=ah o E.size;clear N E O;go_wp2_with fail
   go_loopw [6,40] (λo i a=>∃V:Nat,V<=r.length/\o=.slice none 0 0/\i=.int .i64 V/\I (λ_=>False) w9 a) (λ_ i _=>r.length-(intOf i).toNat)
   case atStart=>exact⟨0,aU _,rfl,rfl,I.refl _ _⟩
   case round=>
    obtain⟨V,hm,rfl,rfl,d⟩:=hrel;by_cases q:V<r.length
    ·have h:=d.own (Y bt) (λ_ _ m=>m);obtain⟨b9,cp,bc⟩:∃b9,x9=some ⟨b9,0,none⟩/\wr.cell? ⟨b9,V,none⟩=some (.string r[V]):=by
      rcases h.2 with⟨h2,h0⟩|⟨cM,cc,cd,h2,_⟩
      ·omega
      ·cases h2;refine⟨cM,rfl,?_⟩;have:=lH h V (.string r[V]) (by simp[strs,q]);rwa[ct,cw]at this
     subst cp;have bh:=(Y bx).dh (d.block b cj id);have cT:=vT underlying244 underlying9 cl cs bh (.string r[V]) trivial true (by simp only[true_iff];exact(Y bq) _ (au q));have e2:(V:Int)<(r.length:Int):=by omega
     have p:=Z d;clear d h bh;generalize r[V]=nm at*;go_wp2;go_roundw;case rel=>exact⟨V+1,q,rfl,by go_num,(Y p).alloc _⟩
     case measure=>simp[intOf];omega
    ·have e2:¬(V:Int)<(r.length:Int):=by omega
     have p:=Z ((Y ca).trans d (λ_ m=>m.elim));clear d;go_wp2;go_ret;exact⟨rfl,Y p⟩
def GJ(w:J)(sb:Nat)(s:SR)(L:Int)(K:DK)(u v e x:List ar)(E:bX w sb s L)(B:xQ w sb 10 [(s.l0,u),(s.l1,v),(s.l2,e),(s.l3,x)])(A:∀N∈u++v++e++x,Kd w N)(D:Pow w)(o:s.log<18446744073709551616)(q:(u++v++e++x).length<=10000000)(b:bR w s.aH K)(r:¬K.aS s.aH sb)(p:K.cY.length<=1000000000000)(k:K.files.length<=100000000)(C:∀P∈K.files.map bY.name,P=eS\/P=fM s.log\/∃N∈u++v++e++x,P=eM N.num):Calls prog 53 #[.pointer (some ⟨sb,0,none⟩)] w λt h=>t=.returned .nilIface/\∃a,nJ w h s.aH K a/\vw a.files=vw K.files/\a.cY.length=K.cY.length:=by
 have n:=zj w sb s L K u v e x E B A D o q b k C;have c:∀W,I (λ_=>False) w W->Calls prog 84 #[.pointer (some ⟨sb,0,none⟩),.slice none 0 0] W λt h=>t=.returned .nilIface/\∃a,nJ w h s.aH K a/\vw a.files=vw K.files/\a.cY.length=K.cY.length:=λW g=>by
  refine(yM W sb s L K (.slice none 0 0) [] ((g.block sb (ak E) id).trans E) (b.ay g (λ_ _=>id)) r ⟨rfl,.inl ⟨rfl,rfl⟩⟩ (λR e=>by cases e) List.nodup_nil (by simp) (by simpa using p)).mono ?_;rintro t h⟨rfl,a,j,G,H⟩;exact⟨rfl,a,⟨j.ok,(g.mono (T:=K.aS s.aH) (λ_ q=>q.elim)).trans j.ay (λ_ q=>.inl q),λq e=>(j.aS q e).imp id (λb=>aB g.size b)⟩,G,by simpa using H⟩
 have i:=Z c;clear c E B A D b C;go_enter func53,ntmps53
 go_wp2_with fail
 refine n.mono ?_;rintro t O⟨rfl,d⟩;have y:=(Y i) O d;go_wp2_with fail
 refine y.mono ?_;rintro t Q⟨rfl,z⟩;have F:=Z z;clear z y d;go_wp2;go_ret;exact⟨rfl,Y F⟩
end Go.Proofs.YtophdnlmpfmeiaaGreatDoor
