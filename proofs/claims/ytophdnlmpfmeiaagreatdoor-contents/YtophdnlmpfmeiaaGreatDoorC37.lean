import Derived.Test.YtophdnlmpfmeiaaGreatDoorC36
namespace Go.Proofs.YtophdnlmpfmeiaaGreatDoor
open ChangeShapes WideShapes RowKit Proofs.Tryz
set_option maxHeartbeats 16000000
set_option linter.all false
set_option maxRecDepth 100000
section
variable{j W W':J}{c o sb g:Nat}{k:Option Nat}{mem dw:Int}{e a f b:M}{m d:List KV}{O:List (Nat×Obj)}{C N:Nat}{l n:List KV}{h closed:Bool}
def MN(O i:List (Nat×Obj))(v:M):Prop:=(∀r∈O,r∈i)/\∀p,v.ownBlock=some p->∃q,(p,q)∈i
theorem ja.Qg(y:ja j W c o sb g k mem dw e a m O C N n closed l h)(t:I (λ_=>False) W W'){v:M}{A p B:Nat}{x:List M}(s:W'.ownsRow W.heap.size A p v B x):∃r,MN O r v/\ja j W' c o sb g k mem dw e a m r C N n closed l h:=by
 rcases hk:v.ownBlock with _|z
 ·exact⟨O,⟨λ_ q=>q,λz q=>by rw[hk]at q;cases q⟩,y.still t⟩
 ·obtain⟨u,w⟩:=dS s hk;exact⟨_,⟨λD q=>aJ _ q,λu q=>by rw[hk]at q;cases q;exact⟨_,cK ..⟩⟩,y.add t (s.lt z hk).1 w⟩
theorem LW.Ps{s:SR}{K:DK}{A B D F:List ar}{p:Nat}{i:List (List E)}(r:LW j W c s.aH sb g k mem dw e a m O s K A B D F C p N i n false l h)(P:Inv W sb s K (cq [] i.flatten) A B D F C p N i)(T:tr W W' sb s K (cq [] i.flatten) A B D F C){U:M}{X:List KV}(H:vK W W' U X):∃G,MN O G U/\ja j W' c s.aH sb g k mem dw e a m G C N n false l h:=by
 obtain⟨u,S,e1,L,Q,w⟩:=P.reads (ak r.so) T;obtain⟨x,_,_⟩:=r.sh;have h':LW j W' c s.aH sb g k mem dw e a m O s u A B D F C p N i n false l h:=r.Pj S Q ⟨x,rfl,w⟩ r.pD r.len r.jU;rcases hk:U.ownBlock with _|t
 ·exact⟨O,⟨λ_ q=>q,λt q=>by rw[hk]at q;cases q⟩,s,u,A,B,D,F,p,i,h'⟩
 ·obtain⟨v,R⟩:=dS H hk;have y:=aK H t hk;have h1:=r.xR.lt;have h2:=r.AG.lt;have h3:=ak r.so;refine⟨(t,.cells v 68 (0,0))::O,⟨λV q=>aJ _ q,λac q=>by rw[hk]at q;cases q;exact⟨_,cK ..⟩⟩,s,u,A,B,D,F,p,i,{h' with obj:=λV z=>?_}⟩;rcases aD.1 z with rfl|z
  ·exact⟨R,⟨y.2,λq=>by have:=r.sh.aH.lt t (L t q);omega,by show t≠sb;omega⟩,by show t≠c;omega,by show t≠g;omega⟩
  ·exact h'.obj V z
theorem Lu(r:ja j W c o sb g k mem dw e a m O C N n closed l h)(d p:aa)(limit:Int):Calls prog 31 #[.pointer (some ⟨sb,0,none⟩),.string d,.string p,.int .i64 limit] W λy W'=>∃x t q,y=.returned (.tuple #[.slice x (if closed then []else jV n d p limit).length t,kr (if closed then 6 else 0)])/\vK W W' (.slice x (if closed then []else jV n d p limit).length t) (if closed then []else jV n d p limit)/\MN O q (.slice x (if closed then []else jV n d p limit).length t)/\ja j W' c o sb g k mem dw e a m q C N n closed l h:=by
 obtain⟨F,K,H,L,t,P,G,E,r⟩:=r;cases closed with
 |true=>
  refine(wR W sb F d p limit r.so r.sh.1).mono ?_;rintro y W'⟨rfl,s,u⟩;exact⟨none,0,O,rfl,bC _ _ _ _,⟨λ_ q=>q,λp q=>by cases q⟩,F,K,H,L,t,P,G,E,r.shut s u⟩
 |false=>
  obtain⟨w,rfl,u⟩:=r.sh;refine(AA W sb F K _ H L t P C d p limit r.so u.st w).mono ?_;rintro y W'⟨Q,rfl,s,B⟩;rw[ow u.rows r.pD]at s;obtain⟨q,A,z⟩:=r.Ps u B s;obtain⟨x,t,D⟩:=aC s;subst D;exact⟨x,t,q,rfl,s,A,z⟩
theorem ja.outs(u:ja j W c o sb g k mem dw e a m O C N n closed l h)(B:iz W f d)(D:iz W b d)(y:d.length<=1000000)(s:∀p,f.ownBlock=some p->∃r,(p,r)∈O)(t:∀p,b.ownBlock=some p->∃r,(p,r)∈O):ja j ((W.setCell ⟨c,5,none⟩ f).setCell ⟨c,6,none⟩ b) c o sb g k mem dw f b d O C N n closed l h:=by
 obtain⟨Q,K,G,H,L,P,F,E,u⟩:=u;have x:I (λp=>p=c) W ((W.setCell ⟨c,5,none⟩ f).setCell ⟨c,6,none⟩ b):=((I.refl (λp=>p=c) W).setCell _ _ _ (.inl rfl)).setCell _ _ _ (.inl rfl);have A:∀p,(∃r,(p,r)∈O)->Aside ((W.setCell ⟨c,5,none⟩ f).setCell ⟨c,6,none⟩ b) K o sb p/\p≠c/\p≠g:=by
  rintro p⟨r,z⟩;have:=(u.obj (p,r) z).2;exact⟨this.1.grow x.size,this.2⟩
 refine⟨Q,K,G,H,L,P,F,E,u.Qr x ((aL (aL u.box)).trans rfl) (x.row B (λp q=>?_)) (x.row D (λp q=>?_)) y (λp q=>A p (s p q)) (λp q=>A p (t p q))⟩
 ·obtain⟨r,z⟩:=s p q;exact⟨(u.obj (p,r) z).2.2.1,(u.obj (p,r) z).2.1.lt⟩
 ·obtain⟨r,z⟩:=t p q;exact⟨(u.obj (p,r) z).2.2.1,(u.obj (p,r) z).2.1.lt⟩
end
section
variable{j W:J}{c o sb g:Nat}{k:Option Nat}{mem dw:Int}{e a:M}{m:List KV}{O:List (Nat×Obj)}{C N:Nat}{l:List KV}{closed:Bool}
theorem IF(bl:ja j W c o sb g k mem dw e a m O C N l closed l closed)(L cb:Int)(S T:aa)(ce:Option Addr)(cc bh:Nat):Calls prog 11 #[.pointer (some ⟨c,0,none⟩),vM 3 L cb S T (.slice ce cc bh)] W λcs w'=>cs=.returned (.bool true)/\∃f b d,ja j w' c o sb g k mem dw f b d O C N l closed l closed:=by
 obtain⟨p,bt⟩:∃p,W.heap.size=p:=⟨_,rfl⟩;have h1:ja j (W.alloc (eV 3 L cb S T (.slice ce cc bh))) c o sb g k mem dw e a m ((p,eV 3 L cb S T (.slice ce cc bh))::O) C N l closed l closed:=bl.add ((I.refl _ W).alloc _) (by omega) (az _ bt.symm);have E:=h1.still (bS (λ_=>False) _);have r:=Lu E S T L;have X:=bj E.gG.2.1 (bj E.dO.2.2.2.1 (bj E.dO.2.2.2.2.1 E.dO.2.1));have cT:=ak bl.box;have cB:=bl.lens;have bq:(if closed then []else jV l S T L).length<=1000000:=by
  have:=kz l S T L;split
  ·simp
  ·omega
 have A:=λW' p(ca:kO W' g p l closed)=>pM g p l closed S T L W' ca (by omega);obtain⟨bk,hR⟩:∃bk,(if closed then []else jV l S T L)=bk:=⟨_,rfl⟩;obtain⟨gn,ao⟩:∃gn:Int,(if closed then 6 else 0)=gn:=⟨_,rfl⟩;rw[hR,ao]at r;rw[hR]at bq;simp only[hR,ao]at A;have P:=Z A;unfold vM;unfold eV at r X;clear bl h1 E hR ao A;go_enter func11,ntmps11
 go_wp2_with fail
 try rw[bt]
 rename_i QQ KK x;refine bM (λbi=>bi.cell? ⟨c,1,none⟩=some (.pointer (some ⟨sb,0,none⟩))/\bi.cell? ⟨p,3,none⟩=some (.string S)/\bi.cell? ⟨p,4,none⟩=some (.string T)/\bi.cell? ⟨p,1,none⟩=some (.int .i64 L)) 15 (by kernel_rfl) ?_;refine cz 0 ?_;iterate 10 (refine cy (v:=?_) X rfl (by kernel_rfl) (λ_ _ _ bl=>bl) (Or.inl ⟨by rfl,?_⟩) ?_;rotate_left;(focus(rintro bi⟨z0,z1,z2,z3⟩;go_simp;try with_reducible rfl));simp only[Act.put,Nat.reduceAdd,ab,ae,af,av,am,ap])
 refine dG ?_;refine aI (i:=10) rfl rfl (by kernel_rfl) ?_;intro KC w;go_simp;refine r.mono ?_;rintro cs W2⟨cn,cm,O2,rfl,br,ax,E⟩;have z:((p,eV 3 L cb S T (.slice ce cc bh)):Nat×Obj)∈O2:=ax.1 _ (cK ..);have t:ja j W2 c o sb g k mem dw e a m ((p,eV 3 L cb S T (.slice ce cc bh))::O2) C N l closed l closed:=E.drop (λcM G=>by rcases aD.1 G with rfl|G;exact z;exact G);have h3:=t.still (bS (λ_=>False) W2);have ac:=bj t.gG.2.1 (bj t.dO.2.2.2.1 (bj t.dO.2.2.2.2.1 t.dO.2.1));have Q:=Z br;have V:=Z ax;have s:=Z h3;refine w _ _ (λ_=>ac) ?_;try simp only[Act.put,ab,ae,af,av,am,ap]
 refine cz 11 ?_;iterate 4 (refine cy (v:=?_) ac rfl (by kernel_rfl) (λ_ _ _ bl=>bl) (Or.inl ⟨by rfl,?_⟩) ?_;rotate_left;(focus(rintro bi⟨z0,z1,z2,z3⟩;go_simp;try with_reducible rfl));simp only[Act.put,Nat.reduceAdd,ab,ae,af,av,am,ap])
 refine dG ?_;refine aI (i:=15) rfl rfl (by kernel_rfl) ?_;intro KL y;go_simp;refine y _ _ (λbh=>(bh rfl).elim) ?_;refine cr (by kernel_rfl) ?_ _;show KK _ _;refine x _ _ ?_;have bv:=(Y P) _ _ (Y s).ref;have bo:=bj (Y s).gG.2.2.1 (bj (Y s).dO.2.2.2.1 (bj (Y s).dO.2.2.2.2.1 (Y s).dO.2.1));clear X ac r br ax z E t h3 w y x P;go_wp2_with fail
 rename_i QQ KK x;refine bM (λbi=>bi.cell? ⟨c,2,none⟩=some (.pointer (some ⟨g,0,none⟩))/\bi.cell? ⟨p,3,none⟩=some (.string S)/\bi.cell? ⟨p,4,none⟩=some (.string T)/\bi.cell? ⟨p,1,none⟩=some (.int .i64 L)) 15 (by kernel_rfl) ?_;refine cz 0 ?_;iterate 10 (refine cy (v:=?_) bo rfl (by kernel_rfl) (λ_ _ _ bl=>bl) (Or.inl ⟨by rfl,?_⟩) ?_;rotate_left;(focus(rintro bi⟨z0,z1,z2,z3⟩;go_simp;try with_reducible rfl));simp only[Act.put,Nat.reduceAdd,ab,ae,af,av,am,ap])
 refine dG ?_;refine aI (i:=10) rfl rfl (by kernel_rfl) ?_;intro KC w;go_simp;refine bv.mono ?_;rintro cs W3⟨v3,rfl,F,al⟩;obtain⟨O3,ba,h3⟩:=(Y s).Qg (I.aR al) F;obtain⟨cx,cv,cp⟩:=aC F;subst cp;have z:((p,eV 3 L cb S T (.slice ce cc bh)):Nat×Obj)∈O3:=ba.1 _ (cK ..);have u:ja j W3 c o sb g k mem dw e a m ((p,eV 3 L cb S T (.slice ce cc bh))::O3) C N l closed l closed:=h3.drop (λcM G=>by rcases aD.1 G with rfl|G;exact z;exact G);have ad:=bj u.gG.2.2.1 (bj u.dO.2.2.2.1 (bj u.dO.2.2.2.2.1 u.dO.2.1));have bs:iz W3 (.slice cn bk.length cm) bk:=(I.aR (S:=λ_=>False) al).row ((bS (λ_=>False) W2).row (cW (Y Q)) (λB q=>⟨id,(aK (Y Q) B q).2⟩)) (λB q=>⟨id,(aK (Y Q) B q).2⟩);have cj:=Z bs;have bn:=Z F;have D:=Z ba;have R:=Z u;refine w _ _ (λ_=>ad) ?_;try simp only[Act.put,ab,ae,af,av,am,ap]
 refine cz 11 ?_;iterate 4 (refine cy (v:=?_) ad rfl (by kernel_rfl) (λ_ _ _ bl=>bl) (Or.inl ⟨by rfl,?_⟩) ?_;rotate_left;(focus(rintro bi⟨z0,z1,z2,z3⟩;go_simp;try with_reducible rfl));simp only[Act.put,Nat.reduceAdd,ab,ae,af,av,am,ap])
 refine dG ?_;refine aI (i:=15) rfl rfl (by kernel_rfl) ?_;intro KL y;go_simp;refine y _ _ (λbh=>(bh rfl).elim) ?_;refine cr (by kernel_rfl) ?_ _;show KK _ _;refine x _ _ ?_;have bx:=kF gn _ (Y R).xN;clear bv bo ad w y x bs F ba h3 u al z;go_wp2_with fail
 refine bx.mono ?_;rintro cs W4⟨rfl,bp⟩;have H:I (λ_=>False) W3 W4:=I.aR bp;have U:=Z ((Y R).still H);have bd:iz W4 (.slice cn bk.length cm) bk:=H.row (Y cj) (λB q=>⟨id,by
  obtain⟨cd,ca⟩:=(Y V).2 B q;exact ak ((Y R).obj (aJ _ ((Y D).1 _ (aJ _ ca))))⟩)
 have bf:iz W4 (.slice cx bk.length cv) bk:=H.row (mH.Hb (Y bn)) (λB q=>⟨id,(aK (Y bn) B q).2⟩);have bg:=kV _ _ bk bk W4 bd bf (by omega) (by omega);have ck:=Z bd;have cl:=Z bf;clear bp bx H bd bf;simp only[sA]at bg;go_wp2_with fail
 refine bg.mono ?_;rintro cs W5⟨rfl,kq,bT⟩;have K:I (λ_=>False) W4 W5:=by rw[bT];exact ft _ _ _
 have h5:=(Y U).still K;have an:=h5.box;have y5:W5.cell? ⟨c,5,none⟩=some e:=h5.gG.2.2.2.1;have y6:W5.cell? ⟨c,6,none⟩=some a:=h5.gG.2.2.2.2;have yf:∀i,W5.frozen? ⟨c,i,none⟩=false:=λi=>by simp[World.frozen?,an]
 have bb:∀B,(Value.slice cn bk.length cm).ownBlock=some B->∃cd,(B,cd)∈((p,eV 3 L cb S T (.slice ce cc bh))::O3):=λB q=>by
  obtain⟨cd,ca⟩:=(Y V).2 B q;exact⟨cd,aJ _ ((Y D).1 _ (aJ _ ca))⟩
 have bc:∀B,(Value.slice cx bk.length cv).ownBlock=some B->∃cd,(B,cd)∈((p,eV 3 L cb S T (.slice ce cc bh))::O3):=λB q=>by
  obtain⟨cd,ca⟩:=(Y D).2 B q;exact⟨cd,aJ _ ca⟩
 have h6:=h5.outs (K.row (Y ck) (λB q=>⟨id,by
  obtain⟨cd,ca⟩:=bb B q;exact ak ((Y U).obj ca)⟩)) (K.row (Y cl) (λB q=>⟨id,by
   obtain⟨cd,ca⟩:=bc B q;exact ak ((Y U).obj ca)⟩)) bq bb bc
 have hO:∀cM∈O,cM∈((p,eV 3 L cb S T (.slice ce cc bh))::O3):=λcM G=>aJ _ ((Y D).1 _ (aJ _ ((Y V).1 _ (aJ _ G))));have ch:=Z (h6.drop hO);have cE:=ak an;clear h5 h6 an bb bc hO K bg bT;go_wp2_with fail
 refine(nr gn _).mono ?_;rintro cs W7⟨rfl,dc⟩;subst W7;go_wp2;go_ret;exact⟨rfl,_,_,_,Y ch⟩
end
section
variable{c W:J}{d h sb a:Nat}{f:Option Nat}{mem dw:Int}{e b:M}{g:List KV}{O:List (Nat×Obj)}{C N:Nat}{l:List KV}{closed:Bool}
theorem rD{j:List nk}:(if closed=false/\eB j=0 then Kk l j else l)=(if closed then l else nj l j):=by
 unfold nj;cases closed<;>simp
theorem Jg(bb:ja c W d h sb a f mem dw e b g O C N l closed l closed)(cM cT:Int)(S cb:aa)(K j cc ax:Nat)(n o:aa)(p:Bool)(hn:0<cc)(ea:cc<=ax)(dx:cc<=1000000000000)(u:K<c.heap.size)(r0:c.cell? ⟨K,j,none⟩=some (.string n))(r1:c.cell? ⟨K,j+1,none⟩=some (.string o))(r2:c.cell? ⟨K,j+2,none⟩=some (.bool p))(hz:n.size<=140737488351232/\o.size<=140737488351232)(hC:C+iW [⟨n,o,p⟩]<=1000000)(hN:N+1<=100000000):Calls prog 33 #[.pointer (some ⟨d,0,none⟩),vM 4 cM cT S cb (.slice (some ⟨K,j,none⟩) cc ax)] W λba w'=>ba=.returned (.bool true)/\∃z l',ja c w' d h sb a z mem dw e b g O (C+iW [⟨n,o,p⟩]) (N+1) l' closed l' closed:=by
 obtain⟨y,al⟩:∃y,W.heap.size=y:=⟨_,rfl⟩;have h1:ja c (W.alloc (eV 4 cM cT S cb (.slice (some ⟨K,j,none⟩) cc ax))) d h sb a f mem dw e b g ((y,eV 4 cM cT S cb (.slice (some ⟨K,j,none⟩) cc ax))::O) C N l closed l closed:=bb.add ((I.refl _ W).alloc _) (by omega) (az _ al.symm);have m:=h1.still (bS (λ_=>False) _);have k:=Lv m S cb n o p hz hC hN;have F:∀X,I (λ_=>False) c X->X.cell? ⟨K,j,none⟩=some (.string n)/\X.cell? ⟨K,j+1,none⟩=some (.string o)/\X.cell? ⟨K,j+2,none⟩=some (.bool p):=λX k=>⟨k.cell r0 id u,k.cell r1 id u,k.cell r2 id u⟩;have L:=bj m.gG.2.1 (bj m.dO.2.2.2.1 (bj m.dO.2.2.2.2.1 (bj m.dO.2.2.2.2.2 (F _ m.ay))));have dT:=ak bb.box;have cv:=bb.lens;have cB:a<W.heap.size:=by
  obtain⟨⟨v,hh,_⟩,_⟩:=bb.ref;exact ak hh
 have cm:(if closed then []else jV l S cb 0).length<=1000000:=by
  have:=kz l S cb 0;split
  ·simp
  ·omega
 have w:=λW' z(bx:kO W' a z l closed)=>pM a z l closed S cb 0 W' bx (by omega);have x:∀W',I (λ_=>False) c W'->Calls prog 13 #[.slice (some ⟨K,j,none⟩) 1 ax] W' λba w'=>∃v',ba=.returned v'/\ES w' W'.heap.size v' [⟨n,o,p⟩]/\Below W'.heap.size W' w':=λW' bl=>by
  refine ug [⟨n,o,p⟩] _ W' (by simp) ⟨rfl,.inr ⟨K,j,ax,rfl,by show 1<=ax;omega,λee ei hj=>?_⟩⟩ (λA U=>by cases U;exact ah u bl.size);obtain⟨q0,q1,q2⟩:=F W' bl;rcases ee with _|_|_|ee
  ·cases hj;exact q0
  ·cases hj;exact q1
  ·cases hj;exact q2
  ·simp[cZ,ky]at hj
 have G:=λW' v'(bx:kO W' a f l closed)(j:ES W' y v' [⟨n,o,p⟩])=>oe a f l closed v' [⟨n,o,p⟩] W' bx (cW j) (λA U=>(aK j A U).2) (by simp;omega);obtain⟨cd,hR⟩:∃cd,(if closed then []else jV l S cb 0)=cd:=⟨_,rfl⟩;obtain⟨gn,bn⟩:∃gn:Int,(if closed then 6 else 0)=gn:=⟨_,rfl⟩;obtain⟨wn,ao⟩:∃wn:Int,(if closed then 6 else eB [⟨n,o,p⟩])=wn:=⟨_,rfl⟩;rw[hR,ao]at k;rw[hR]at cm;simp only[hR,bn]at w;simp only[ao,rD]at G;obtain⟨la,V⟩:∃la,(if closed then l else nj l [⟨n,o,p⟩])=la:=⟨_,rfl⟩;rw[V]at k;simp only[V]at G;have H:=Z w;have bi:=Z x;have bh:=Z G;have ch:=Z F;have e1:(0:Int)<(cc:Int):=by omega
 have e2:(1:Int)<=(ax:Int):=by omega
 have cx:W.heap.size=y:=al;unfold vM;unfold eV at k L;clear bb h1 m hR bn ao V w x G F r0 r1 r2 u;go_enter func33,ntmps33
 go_wp2_with fail
 try rw[al]
 rename_i QQ KK s;refine bM (λX=>X.cell? ⟨d,1,none⟩=some (.pointer (some ⟨sb,0,none⟩))/\X.cell? ⟨y,3,none⟩=some (.string S)/\X.cell? ⟨y,4,none⟩=some (.string cb)/\X.cell? ⟨y,5,none⟩=some (.slice (some ⟨K,j,none⟩) cc ax)/\X.cell? ⟨K,j,none⟩=some (.string n)/\X.cell? ⟨K,j+1,none⟩=some (.string o)/\X.cell? ⟨K,j+2,none⟩=some (.bool p)) 17 (by kernel_rfl) ?_;refine cz 0 ?_;iterate 12 (refine cy (v:=?_) L rfl (by kernel_rfl) (λ_ _ _ bb=>bb) (Or.inl ⟨by rfl,?_⟩) ?_;rotate_left;(focus(rintro X⟨z0,z1,z2,z3,z4,z5,z6⟩;go_simp;try with_reducible rfl));simp only[Act.put,Nat.reduceAdd,ab,ae,af,av,am,ap])
 refine dG ?_;refine aI (i:=12) rfl rfl (by kernel_rfl) ?_;intro KC r;go_simp;refine k.mono ?_;rintro ba W2⟨v2,rfl,R,m⟩;obtain⟨dk,dc,cn⟩:=aC R;subst cn;have B:=m.still (bS (λ_=>False) W2);have P:=bj m.gG.2.1 (bj m.dO.2.2.2.1 (bj m.dO.2.2.2.2.1 (bj m.dO.2.2.2.2.2 ((Y ch) _ m.ay))));have bd:=Z R;have q:=Z B;refine r _ _ (λ_=>P) ?_;try simp only[Act.put,ab,ae,af,av,am,ap]
 refine cz 13 ?_;iterate 4 (refine cy (v:=?_) P rfl (by kernel_rfl) (λ_ _ _ bb=>bb) (Or.inl ⟨by rfl,?_⟩) ?_;rotate_left;(focus(rintro X⟨z0,z1,z2,z3,z4,z5,z6⟩;go_simp;try with_reducible rfl));simp only[Act.put,Nat.reduceAdd,ab,ae,af,av,am,ap])
 refine dG ?_;refine aI (i:=17) rfl rfl (by kernel_rfl) ?_;intro KL t;go_simp;refine t _ _ (λax=>(ax rfl).elim) ?_;refine cr (by kernel_rfl) ?_ _;show KK _ _;refine s _ _ ?_;have bs:=(Y H) _ _ (Y q).ref;have bk:=bj (Y q).gG.2.2.1 (bj (Y q).dO.2.2.2.1 (Y q).dO.2.2.2.2.1);have cE:W.heap.size<W2.heap.size:=by
  have:=ak (m.obj (cK ..));simp only at this;omega
 clear L P k R m B r t s H;go_wp2_with fail
 rename_i KK s;refine bM (λX=>X.cell? ⟨d,2,none⟩=some (.pointer (some ⟨a,0,none⟩))/\X.cell? ⟨y,3,none⟩=some (.string S)/\X.cell? ⟨y,4,none⟩=some (.string cb)) 13 (by kernel_rfl) ?_;refine cz 0 ?_;iterate 8 (refine cy (v:=?_) bk rfl (by kernel_rfl) (λ_ _ _ bb=>bb) (Or.inl ⟨by rfl,?_⟩) ?_;rotate_left;(focus(rintro X⟨z0,z1,z2⟩;go_simp;try with_reducible rfl));simp only[Act.put,Nat.reduceAdd,ab,ae,af,av,am,ap])
 refine dG ?_;refine aI (i:=8) rfl rfl (by kernel_rfl) ?_;intro KC r;go_simp;refine bs.mono ?_;rintro ba W3⟨v3,rfl,ac,D⟩;obtain⟨ds,dn,cp⟩:=aC ac;subst cp;have B:=(Y q).still (I.aR D);have Q:=bj B.gG.2.2.1 (bj B.dO.2.2.2.1 B.dO.2.2.2.2.1);have eb:=D.size;have bg:=Z ac;have ce:=Z D;have bf:=Z B;have y5:W3.cell? ⟨y,5,none⟩=some (.slice (some ⟨K,j,none⟩) cc ax):=B.dO.2.2.2.2.2;refine r _ _ (λ_=>Q) ?_;try simp only[Act.put,ab,ae,af,av,am,ap]
 refine cz 9 ?_;iterate 4 (refine cy (v:=?_) Q rfl (by kernel_rfl) (λ_ _ _ bb=>bb) (Or.inl ⟨by rfl,?_⟩) ?_;rotate_left;(focus(rintro X⟨z0,z1,z2⟩;go_simp;try with_reducible rfl));simp only[Act.put,Nat.reduceAdd,ab,ae,af,av,am,ap])
 refine dG ?_;refine aI (i:=13) rfl rfl (by kernel_rfl) ?_;intro KL t;go_simp;refine t _ _ (λax=>(ax rfl).elim) ?_;refine cr (by kernel_rfl) ?_ _;show KK _ _;refine s _ _ ?_;have x:=(Y bi) _ (Y bf).ay;clear bs bk Q r t s ac D B;go_wp2_with fail
 refine x.mono ?_;rintro ba W4⟨v4,rfl,ad,E⟩;have h4:=(Y bf).still (I.aR E);have ec:=E.size;have dv:W2.drew.heap.size=W2.heap.size:=rfl;have bv:=(Y bh) W4 v4 h4.ref (gI ad (by omega));obtain⟨eg,ef,cs⟩:=aC ad;subst cs;have y2:W4.cell? ⟨d,2,none⟩=some (.pointer (some ⟨a,0,none⟩)):=h4.gG.2.2.1;have bc:=Z E;have cj:=Z h4;clear ad E h4 x bh bi;go_wp2_with fail
 refine bv.mono ?_;rintro ba W5⟨rfl,⟨z,br,bp⟩,T⟩;have h5:=(Y cj).Do T br bp;have t5:I (λA=>A=a) W4 W5:=I.bz (S:=λA=>A=a) T (by rintro A⟨⟩;exact .inl rfl);have bT:I (λA=>A=a) W2 W5:=(((bS (λA=>A=a) W2).trans (I.aR (S:=λ_=>False) (Y ce)) (λ_ bx=>bx.elim)).trans (I.aR (S:=λ_=>False) (Y bc)) (λ_ bx=>bx.elim)).trans t5 (λ_ bx=>.inl bx);have ca:I (λA=>A=a) W3 W5:=(I.aR (S:=λA=>A=a) (Y bc)).trans t5 (λ_ bx=>.inl bx);have bo:iz W5 (.slice dk cd.length dc) cd:=bT.row (cW (Y bd)) (λA U=>by
  have hq:=aK (Y bd) A U;simp at hq;exact⟨λba=>by have:A=a:=ba;omega,hq.2⟩)
 have bq:iz W5 (.slice ds cd.length dn) cd:=ca.row (mH.Hb (Y bg)) (λA U=>by
  have hq:=aK (Y bg) A U;exact⟨λba=>by have:A=a:=ba;omega,hq.2⟩)
 have an:=kV _ _ cd cd W5 bo bq (by omega) (by omega);simp only[sA]at an;have ck:=Z h5;clear bo bq bT ca t5 h5 T br bp bv;go_wp2_with fail
 refine an.mono ?_;rintro ba W6⟨rfl,kq,bt⟩;have cl:=Z ((Y ck).still (W':=W6) (by rw[bt];exact ft _ _ _));clear an bt;go_wp2_with fail
 refine(nr wn _).mono ?_;rintro ba W7⟨rfl,ed⟩;subst W7;go_wp2;go_ret;exact⟨rfl,_,_,(Y cl).drop (λp j=>aJ _ j)⟩
end
section
variable{f W:J}{c h sb d:Nat}{g:Option Nat}{mem dw:Int}{b a:M}{e:List KV}{O:List (Nat×Obj)}{C N:Nat}{l:List KV}{closed:Bool}
theorem xL(R:ja f W c h sb d g mem dw b a e O C N l closed l closed)(A bd:Int)(S T:aa)(bi:Option Addr)(bc al:Nat)(e2:A<=0)(hn:A<0->bc=0):Calls prog 11 #[.pointer (some ⟨c,0,none⟩),vM 4 A bd S T (.slice bi bc al)] W λbb w'=>bb=.returned (.bool true)/\ja f w' c h sb d g mem dw b a e O C N l closed l closed:=by
 obtain⟨s,L⟩:∃s,W.heap.size=s:=⟨_,rfl⟩;have h1:ja f (W.alloc (eV 4 A bd S T (.slice bi bc al))) c h sb d g mem dw b a e ((s,eV 4 A bd S T (.slice bi bc al))::O) C N l closed l closed:=R.add ((I.refl _ W).alloc _) (by omega) (az _ L.symm);have m:=h1.still (bS (λ_=>False) _);have j:=zh m S T A;have w:=bj m.gG.2.1 (bj m.dO.2.2.2.1 (bj m.dO.2.2.2.2.1 m.dO.2.1));have bh:=ak R.box;have ba:=R.lens;have an:(if closed then []else jV l S T A).length<=1000000:=by
  have:=kz l S T A;split
  ·simp
  ·omega
 have q:=λW' j(k:kO W' d j l closed)=>pM d j l closed S T A W' k (by omega);have D:(if closed=true\/A<=0 then []else jV l S T A)=[]:=by
  exact dr (.inr e2)
 rw[D]at j;obtain⟨bk,hR⟩:∃bk,(if closed then []else jV l S T A)=bk:=⟨_,rfl⟩;obtain⟨gn,H⟩:∃gn:Int,(if closed then 6 else 0)=gn:=⟨_,rfl⟩;skip
 rw[hR]at an;simp only[hR,H]at q;have t:=Z q;by_cases e1:A<0;case' pos=>obtain rfl:=hn e1
 all_goals
  clear hn;unfold vM;unfold eV at j w;clear R h1 m hR H q D;go_enter func11,ntmps11
  go_wp2_with fail
  try rw[L]
  rename_i QQ KK o;refine bM (λX=>X.cell? ⟨c,1,none⟩=some (.pointer (some ⟨sb,0,none⟩))/\X.cell? ⟨s,3,none⟩=some (.string S)/\X.cell? ⟨s,4,none⟩=some (.string T)/\X.cell? ⟨s,1,none⟩=some (.int .i64 A)) 11 (by kernel_rfl) ?_;refine cz 0 ?_;iterate 10 (refine cy (v:=?_) w rfl (by kernel_rfl) (λ_ _ _ R=>R) (Or.inl ⟨by rfl,?_⟩) ?_;rotate_left;(focus(rintro X⟨z0,z1,z2,z3⟩;go_simp;try with_reducible rfl));simp only[Act.put,Nat.reduceAdd,ab,ae,af,av,am,ap])
  refine dG ?_;refine aI (i:=10) rfl rfl (by kernel_rfl) ?_;intro KC n;go_simp;refine j.mono ?_;rintro bb W2⟨v2,rfl,z,m⟩;obtain⟨bg,bf,ao⟩:=aC z;subst ao;have r:=m.still (bS (λ_=>False) W2);have E:=bj m.gG.2.1 (bj m.dO.2.2.2.1 (bj m.dO.2.2.2.2.1 m.dO.2.1));have u:=Z z;have k:=Z r;refine n _ _ (λ_=>E) ?_;try simp only[Act.put,ab,ae,af,av,am,ap]
  refine aI (i:=11) rfl rfl (by kernel_rfl) ?_;intro KL p;go_simp;refine p _ _ (λal=>(al rfl).elim) ?_;refine cr (by kernel_rfl) ?_ _;show KK _ _;refine o _ _ ?_;have P:=(Y t) _ _ (Y k).ref;have F:=bj (Y k).gG.2.2.1 (bj (Y k).dO.2.2.2.1 (bj (Y k).dO.2.2.2.2.1 (Y k).dO.2.1));clear w E j z m r n p o t;go_wp2_with fail
  rename_i QQ KK o;refine bM (λX=>X.cell? ⟨c,2,none⟩=some (.pointer (some ⟨d,0,none⟩))/\X.cell? ⟨s,3,none⟩=some (.string S)/\X.cell? ⟨s,4,none⟩=some (.string T)/\X.cell? ⟨s,1,none⟩=some (.int .i64 A)) 15 (by kernel_rfl) ?_;refine cz 0 ?_;iterate 10 (refine cy (v:=?_) F rfl (by kernel_rfl) (λ_ _ _ R=>R) (Or.inl ⟨by rfl,?_⟩) ?_;rotate_left;(focus(rintro X⟨z0,z1,z2,z3⟩;go_simp;try with_reducible rfl));simp only[Act.put,Nat.reduceAdd,ab,ae,af,av,am,ap])
  refine dG ?_;refine aI (i:=10) rfl rfl (by kernel_rfl) ?_;intro KC n;go_simp;refine P.mono ?_;rintro bb U⟨v3,rfl,K,y⟩;obtain⟨bx,bl,ax⟩:=aC K;subst ax;have r:=(Y k).still (I.aR y);have x:=bj r.gG.2.2.1 (bj r.dO.2.2.2.1 (bj r.dO.2.2.2.2.1 r.dO.2.1));have G:iz U (.slice bg ([]:List KV).length bf) ([]:List KV):=(I.aR (S:=λ_=>False) y).row ((bS (λ_=>False) W2).row (cW (Y u)) (λk j=>⟨id,(aK (Y u) k j).2⟩)) (λk j=>⟨id,(aK (Y u) k j).2⟩);have ad:=Z G;have V:=Z r;have y1:U.cell? ⟨s,1,none⟩=some (.int .i64 A):=r.dO.2.1;refine n _ _ (λ_=>x) ?_;try simp only[Act.put,ab,ae,af,av,am,ap]
  refine cz 11 ?_;iterate 4 (refine cy (v:=?_) x rfl (by kernel_rfl) (λ_ _ _ R=>R) (Or.inl ⟨by rfl,?_⟩) ?_;rotate_left;(focus(rintro X⟨z0,z1,z2,z3⟩;go_simp;try with_reducible rfl));simp only[Act.put,Nat.reduceAdd,ab,ae,af,av,am,ap])
  refine dG ?_;refine aI (i:=15) rfl rfl (by kernel_rfl) ?_;intro KL p;go_simp;refine p _ _ (λal=>(al rfl).elim) ?_;refine cr (by kernel_rfl) ?_ _;show KK _ _;refine o _ _ ?_;have B:=kV _ _ ([]:List KV) ([]:List KV) U (Y ad) (show iz U (.slice none 0 0) []from⟨rfl,.inl ⟨rfl,rfl⟩⟩) (by simp) (by simp);simp only[sA]at B;clear P F x n p o G K r y;go_wp2_with fail
  refine B.mono ?_;rintro bb W5⟨rfl,kq,Q⟩;have ac:=Z ((Y V).still (W':=W5) (by rw[Q];exact ft _ _ _));clear B Q;go_wp2;go_ret;exact⟨rfl,(Y ac).drop (λp j=>aJ _ j)⟩
end
section
variable{f W:J}{c h sb d:Nat}{g:Option Nat}{mem dw:Int}{b a:M}{e:List KV}{O:List (Nat×Obj)}{C N:Nat}{l:List KV}{closed:Bool}
theorem vV(R:ja f W c h sb d g mem dw b a e O C N l closed l closed)(A bf:Int)(S T:aa)(bl:Option Addr)(bk an:Nat)(hA:0<A):Calls prog 11 #[.pointer (some ⟨c,0,none⟩),vM 4 A bf S T (.slice bl bk an)] W λbd w'=>bd=.returned (.bool true)/\ja f w' c h sb d g mem dw b a e O C N l closed l closed:=by
 obtain⟨s,L⟩:∃s,W.heap.size=s:=⟨_,rfl⟩;have h1:ja f (W.alloc (eV 4 A bf S T (.slice bl bk an))) c h sb d g mem dw b a e ((s,eV 4 A bf S T (.slice bl bk an))::O) C N l closed l closed:=R.add ((I.refl _ W).alloc _) (by omega) (az _ L.symm);have m:=h1.still (bS (λ_=>False) _);have j:=zh m S T A;have w:=bj m.gG.2.1 (bj m.dO.2.2.2.1 (bj m.dO.2.2.2.2.1 m.dO.2.1));have bi:=ak R.box;have bc:=R.lens;have ao:(if closed then []else jV l S T A).length<=1000000:=by
  have:=kz l S T A;split
  ·simp
  ·omega
 have q:=λW' j(k:kO W' d j l closed)=>pM d j l closed S T A W' k (by omega);have E:(if closed=true\/A<=0 then []else jV l S T A)=(if closed then []else jV l S T A):=by
  cases closed<;>simp<;>omega
 rw[E]at j;obtain⟨bb,U⟩:∃bb,(if closed then []else jV l S T A)=bb:=⟨_,rfl⟩;obtain⟨gn,K⟩:∃gn:Int,(if closed then 6 else 0)=gn:=⟨_,rfl⟩;rw[U]at j;rw[U]at ao;simp only[U,K]at q;have t:=Z q;have e1:¬(A<0):=by omega
 have e2:¬(A<=0):=by omega
 unfold vM;unfold eV at j w;clear R h1 m U K q E;go_enter func11,ntmps11
 go_wp2_with fail
 try rw[L]
 rename_i QQ KK o;refine bM (λX=>X.cell? ⟨c,1,none⟩=some (.pointer (some ⟨sb,0,none⟩))/\X.cell? ⟨s,3,none⟩=some (.string S)/\X.cell? ⟨s,4,none⟩=some (.string T)/\X.cell? ⟨s,1,none⟩=some (.int .i64 A)) 11 (by kernel_rfl) ?_;refine cz 0 ?_;iterate 10 (refine cy (v:=?_) w rfl (by kernel_rfl) (λ_ _ _ R=>R) (Or.inl ⟨by rfl,?_⟩) ?_;rotate_left;(focus(rintro X⟨z0,z1,z2,z3⟩;go_simp;try with_reducible rfl));simp only[Act.put,Nat.reduceAdd,ab,ae,af,av,am,ap])
 refine dG ?_;refine aI (i:=10) rfl rfl (by kernel_rfl) ?_;intro KC n;go_simp;refine j.mono ?_;rintro bd W2⟨v2,rfl,z,m⟩;obtain⟨bh,bg,ax⟩:=aC z;subst ax;have r:=m.still (bS (λ_=>False) W2);have F:=bj m.gG.2.1 (bj m.dO.2.2.2.1 (bj m.dO.2.2.2.2.1 m.dO.2.1));have u:=Z z;have k:=Z r;refine n _ _ (λ_=>F) ?_;try simp only[Act.put,ab,ae,af,av,am,ap]
 refine aI (i:=11) rfl rfl (by kernel_rfl) ?_;intro KL p;go_simp;refine p _ _ (λan=>(an rfl).elim) ?_;refine cr (by kernel_rfl) ?_ _;show KK _ _;refine o _ _ ?_;have P:=(Y t) _ _ (Y k).ref;have G:=bj (Y k).gG.2.2.1 (bj (Y k).dO.2.2.2.1 (bj (Y k).dO.2.2.2.2.1 (Y k).dO.2.1));clear w F j z m r n p o t;go_wp2_with fail
 rename_i QQ KK o;refine bM (λX=>X.cell? ⟨c,2,none⟩=some (.pointer (some ⟨d,0,none⟩))/\X.cell? ⟨s,3,none⟩=some (.string S)/\X.cell? ⟨s,4,none⟩=some (.string T)/\X.cell? ⟨s,1,none⟩=some (.int .i64 A)) 15 (by kernel_rfl) ?_;refine cz 0 ?_;iterate 10 (refine cy (v:=?_) G rfl (by kernel_rfl) (λ_ _ _ R=>R) (Or.inl ⟨by rfl,?_⟩) ?_;rotate_left;(focus(rintro X⟨z0,z1,z2,z3⟩;go_simp;try with_reducible rfl));simp only[Act.put,Nat.reduceAdd,ab,ae,af,av,am,ap])
 refine dG ?_;refine aI (i:=10) rfl rfl (by kernel_rfl) ?_;intro KC n;go_simp;refine P.mono ?_;rintro bd W3⟨v3,rfl,B,y⟩;obtain⟨bx,bn,ba⟩:=aC B;subst ba;have r:=(Y k).still (I.aR y);have x:=bj r.gG.2.2.1 (bj r.dO.2.2.2.1 (bj r.dO.2.2.2.2.1 r.dO.2.1));have H:iz W3 (.slice bh bb.length bg) bb:=(I.aR (S:=λ_=>False) y).row ((bS (λ_=>False) W2).row (cW (Y u)) (λk j=>⟨id,(aK (Y u) k j).2⟩)) (λk j=>⟨id,(aK (Y u) k j).2⟩);have al:=Z H;have ad:=Z B;have V:=Z r;have y1:W3.cell? ⟨s,1,none⟩=some (.int .i64 A):=r.dO.2.1;refine n _ _ (λ_=>x) ?_;try simp only[Act.put,ab,ae,af,av,am,ap]
 refine cz 11 ?_;iterate 4 (refine cy (v:=?_) x rfl (by kernel_rfl) (λ_ _ _ R=>R) (Or.inl ⟨by rfl,?_⟩) ?_;rotate_left;(focus(rintro X⟨z0,z1,z2,z3⟩;go_simp;try with_reducible rfl));simp only[Act.put,Nat.reduceAdd,ab,ae,af,av,am,ap])
 refine dG ?_;refine aI (i:=15) rfl rfl (by kernel_rfl) ?_;intro KL p;go_simp;refine p _ _ (λan=>(an rfl).elim) ?_;refine cr (by kernel_rfl) ?_ _;show KK _ _;refine o _ _ ?_;have D:=kV _ _ bb bb W3 (Y al) (mH.Hb (Y ad)) (by omega) (by omega);simp only[sA]at D;clear P G x n p o H B r y;go_wp2_with fail
 refine D.mono ?_;rintro bd W5⟨rfl,kq,Q⟩;have ac:=Z ((Y V).still (W':=W5) (by rw[Q];exact ft _ _ _));clear D Q;go_wp2;go_ret;exact⟨rfl,(Y ac).drop (λp j=>aJ _ j)⟩
end
end Go.Proofs.YtophdnlmpfmeiaaGreatDoor
