import Derived.Test.YtophdnlmpfmeiaaGreatDoorC29
import Derived.Test.YtophdnlmpfmeiaaGreatDoorC33
namespace Go.Proofs.YtophdnlmpfmeiaaGreatDoor
open ChangeShapes WideShapes RowKit Proofs.Tryz
set_option maxHeartbeats 16000000
set_option linter.all false
set_option maxRecDepth 100000
def ar.mi(t:ar):ar:={t with tb:=0}
def iF(b a:List ar):Prop:=a.map ar.mi=b.map ar.mi
def iF.refl(a:List ar):iF a a:=rfl
def iF.length{a a':List ar}(h:iF a a'):a'.length=a.length:=by
 have:=bB List.length h;simpa using this
def iF.nil{a:List ar}(h:iF [] a):a=[]:=lA.1 h.length
def iF.append{d a e b:List ar}(h:iF d a)(k:iF e b):iF (d++e) (a++b):=by
 unfold iF at*;rw[aN,aN,h,k]
def iF.map{α:Type}{a a':List ar}(h:iF a a')(f:ar->α)(b:∀t,f t.mi=f t):a'.map f=a.map f:=by
 have e:∀l:List ar,l.map f=(l.map ar.mi).map f:=λl=>by
  rw[fY];exact List.map_congr_left (λt _=>(b t).symm)
 rw[e a',e a];exact bB _ h
def iF.mem{c a':List ar}(h:iF c a'){t:ar}(a:t∈a'):∃u∈c,u.mi=t.mi:=by
 have:t.mi∈a'.map ar.mi:=gL a;rw[h]at this;obtain⟨u,b,e⟩:=aZ.1 this;exact⟨u,b,e⟩
def iF.symm{a d:List ar}(h:iF a d):iF d a:=Eq.symm h
def sM{t u:ar}(h:u.mi=t.mi):u.num=t.num:=(bB ar.num h:u.mi.num=t.mi.num)
def uO{t u:ar}(h:u.mi=t.mi):u.cs=t.cs:=(bB ar.cs h:u.mi.cs=t.mi.cs)
def GW{t u:ar}(h:u.mi=t.mi):u.ks=t.ks:=(bB ar.ks h:u.mi.ks=t.mi.ks)
def iF.all{a a':List ar}(h:iF a a'):a'.map ar.all=a.map ar.all:=h.map _ (λ_=>rfl)
def iF.bN{a a':List ar}(h:iF a a'):bN a'=bN a:=by unfold Go.Proofs.YtophdnlmpfmeiaaGreatDoor.bN;rw[h.all]
def iF.bZ{e a' g b' h c' j d':List ar}(a:iF e a')(b:iF g b')(c:iF h c')(d:iF j d'):bZ a' b' c' d'=bZ e g h j:=by
 unfold Go.Proofs.YtophdnlmpfmeiaaGreatDoor.bZ;rw[a.all,b.bN,c.bN,d.bN]
def iF.kN{b a:List ar}(h:iF b a):kN a=kN b:=by
 unfold Go.Proofs.YtophdnlmpfmeiaaGreatDoor.kN;have:a.map qo=b.map qo:=h.map _ (λ_=>rfl);rw[h.length,List.flatMap_def,List.flatMap_def,this]
def iF.side{e a:List ar}(h:iF e a)(b:jp e):jp a:=by
 refine⟨λt c=>?_,?_⟩
 ·obtain⟨u,d,f⟩:=h.mem c;rw[<-GW f,<-uO f];exact b.pure u d
 ·rw[h.bN];exact b.li
def iF.Oc{k a:List ar}(l:iF k a)(h:∀t∈k,zP t):∀t∈a,zP t:=λt i=>by
 obtain⟨u,j,g⟩:=l.mem i;obtain⟨b,c,d,e,f⟩:=h u j;rw[GW g,uO g]at b c;rw[uO g]at d e;rw[sM g]at f;exact⟨b,c,d,e,f⟩
def Km.Qi{n:Fs}{r o s:Nat}{t v x y d e f g:List ar}{bQ:Bool}{p:List (List E)}(h:Km n r o s t v x y bQ p)(i:iF t d)(j:iF v e)(k:iF x f)(l:iF y g):Km n r o s d e f g bQ p:=by
 have a:iF (t++v++x++y) (d++e++f++g):=((i.append j).append k).append l;refine⟨λH w D=>?_,?_,h.log,h.AM,λG b=>?_,?_,λG b=>?_,h.lt,a.Oc h.gU⟩
 ·rcases h.names H w D with q|q|⟨G,b,q⟩
  ·exact .inl q
  ·exact .inr (.inl q)
  ·obtain⟨u,c,m⟩:=a.symm.mem b;exact .inr (.inr ⟨u,c,by rw[sM m];exact q⟩)
 ·rcases h.state with q|⟨q,z,A,B,C,F⟩
  ·refine .inl (q.trans ?_);unfold fJ;simp only[aY,df,i.kN,j.kN,k.kN,l.kN]
  ·subst z A B C;exact .inr ⟨q,i.nil,j.nil,k.nil,l.nil,F⟩
 ·obtain⟨u,c,m⟩:=a.mem b;rw[<-sM m,<-uO m];exact h.uh u c
 ·rw[a.map ar.num (λ_=>rfl)];exact h.uq
 ·obtain⟨u,c,m⟩:=a.mem b;rw[<-sM m];exact h.low u c
structure sk(w:J)(db:Nat)(K:DK)(a b c d:List ar)(C tb N nx lg:Nat)(bQ:Bool)(ls:List (List E)):Prop where
 aH:bR w db K
 nE:Km (vw K.files) nx lg tb a b c d bQ ls
 pr:PR tb (bZ a b c d)
 lp:CI ((tb:Int)+1) ls
 mG:(cq [] ls.flatten).length+(bN a).length+(bN b).length+(bN c).length+(bN d).length<=C
 jU:C<=1000000
 s1:jp b
 s2:jp c
 s3:jp d
 MR:bQ=true->ls≠[]
 nx:nx<=2+1000001*N
 bn:tb+ls.length<=N
 cY:K.cY.length<=1000001+2*N
 zX:N<=100000000
 steps:Steps w
 pow:Pow w
 dQ:¬K.aS db 1
 jB:¬K.aS db 3
def uK{ts:List ar}(h:∀t∈ts,zP t):ts.length<=(bN ts).length:=jl (λt a=>(h t a).pure)
def sk.count{w:J}{h:Nat}{K:DK}{d e c g:List ar}{C u N r o:Nat}{bQ:Bool}{q:List (List E)}(j:sk w h K d e c g C u N r o bQ q):(d++e++c++g).length<=1000000:=by
 have b:=j.nE.gU;have x:=uK (ts:=d) (λt a=>b t (by simp[a]));have y:=uK (ts:=e) (λt a=>b t (by simp[a]));have z:=uK (ts:=c) (λt a=>b t (by simp[a]));have A:=uK (ts:=g) (λt a=>b t (by simp[a]));have:=j.mG;have:=j.jU;simp only[ag];omega
def xH(w:J)(c b:Nat)(d:List M)(t:ar):Prop:=∃a bJ,js w t.tb (.pointer (some ⟨c,0,none⟩)) t.num (cC t.cs).length (dz (aW 0 t.cs)).length (jv (dz (aW 0 t.cs))) a 0 bJ (.slice none 0 0) t.ks/\b<t.tb/\t.tb<w.heap.size/\b<a/\a<w.heap.size/\∀(j:Nat)(v:M),d[j]?=some v->v.ownBlock≠some t.tb/\v.ownBlock≠some a
structure xI(w0 wr:J)(db:Nat)(K K1:DK)(gb lb:Nat)(mv vs:List M)(Ts:List (List ar)):Prop where
 IZ:wr.heap[gb]?=some (.cells mv.toArray 153 (0,0))
 box:wr.heap[lb]?=some (.cells vs.toArray 107 (0,0))
 uf:vs.length=4
 yl:Ts.length=4
 rows:∀(j:Nat)(v:M)(T:List ar),vs[j]?=some v->Ts[j]?=some T->wr.ownsRow (lb+1) 199 1 v T.length (T.map ar.ptr)
 ne:∀(j j':Nat)(v v':M)(q:Nat),j≠j'->vs[j]?=some v->vs[j']?=some v'->v.ownBlock=some q->v'.ownBlock≠some q
 aH:bR wr db K1
 same:K1.files=K.files/\K1.cY=K.cY/\∀k,K1.aS db k->K.aS db k
 uh:∀t∈Ts.flatten,xH wr db lb vs t
 BO:(Ts.flatten.map ar.tb).Nodup
 ay:I (K.aS db) w0 wr
 low:∀k,K.aS db k->k<w0.heap.size
 ord:w0.heap.size<=gb/\gb<lb/\lb<wr.heap.size
def vy{t:ar}{T:List ar}:∀{a:List (List ar)}{i:Nat},a[i]?=some T->List.Perm (a.set i (T++[t])).flatten (t::a.flatten)
 |[],i,h=>by simp at h
 |U::a,0,h=>by
  simp at h;subst h;rw[ae,aT,aT,aV];exact jy
 |U::a,i+1,h=>by
  rw[List.getElem?_cons_succ]at h;rw[af,aT,aT];exact((mN U (vy h)).trans jy)
def xI.row{z wr:J}{o:Nat}{K g:DK}{r lb:Nat}{y d:List M}{a:List (List ar)}(s:xI z wr o K g r lb y d a){j:Nat}{v:M}(c:d[j]?=some v):∃T,a[j]?=some T/\wr.ownsRow (lb+1) 199 1 v T.length (T.map ar.ptr):=by
 have t:j<4:=by
  rw[<-s.uf];rcases cJ j d.length with h|h
  ·exact h
  ·rw[ci h]at c;cases c
 have e:a[j]?=some (a[j]'(by rw[s.yl];exact t)):=aA _;exact⟨_,e,s.rows j v _ c e⟩
def xI.own{s wr:J}{e:Nat}{K b:DK}{g lb:Nat}{r a:List M}{d:List (List ar)}(y:xI s wr e K b g lb r a d){j:Nat}{v:M}(p:a[j]?=some v){q:Nat}(h:v.ownBlock=some q):lb<q/\q<wr.heap.size:=by
 obtain⟨D,_,o⟩:=y.row p;have:=aK o q h;omega
def xI.cell{q wr:J}{g:Nat}{K d:DK}{h lb:Nat}{o a:List M}{e:List (List ar)}(r:xI q wr g K d h lb o a e)(j:Nat):wr.cell? ⟨lb,j,none⟩=a[j]?:=by
 rw[aj r.box];simp
def xI.Pv{h wr:J}{e:Nat}{K c:DK}{a f:Nat}{b g:List M}{d:List (List ar)}(k:xI h wr e K c a f b g d)(j:Nat):wr.cell? ⟨a,j,none⟩=b[j]?:=by
 rw[aj k.IZ];simp
def xH.ay{S:Nat->Prop}{w w':J}{d lb:Nat}{o:List M}{t:ar}(C:xH w d lb o t)(a:I S w w')(h:∀k,S k->k<=lb):xH w' d lb o t:=by
 obtain⟨r,bJ,B,y,e,z,g,A⟩:=C;refine⟨r,bJ,B.dh (a.block _ e (λc=>by have:=h _ c;omega)) (a.block _ g (λc=>by have:=h _ c;omega)),y,ah e a.size,z,ah g a.size,A⟩
def xI.move{S:Nat->Prop}{v wr p:J}{d:Nat}{K n g:DK}{e m:Nat}{s t:List M}{q:List (List ar)}(h:xI v wr d K n e m s t q)(f:I S wr p)(r:∀k,S k->K.aS d k\/e<k/\k<m)(w:bR p d g)(o:g.files=n.files/\g.cY=n.cY/\∀k,g.aS d k->n.aS d k):xI v p d K g e m s t q:=by
 have l:=h.low;have a:=h.ord;have b:∀k,S k->k<e\/e<k/\k<m:=λk a=>(r k a).imp (λc=>by have:=l k c;omega) id;refine⟨?_,?_,h.uf,h.yl,?_,h.ne,w,⟨o.1.trans h.same.1,o.2.1.trans h.same.2.1,λk c=>h.same.2.2 k (o.2.2 k c)⟩,?_,h.BO,?_,l,?_⟩
 ·exact(f.block e (ak h.IZ) (λc=>by have:=b _ c;omega)).trans h.IZ
 ·exact(f.block m (ak h.box) (λc=>by have:=b _ c;omega)).trans h.box
 ·exactλj l T a e=>f.own (h.rows j l T a e) (λm k c=>by have:=h.own a k;have:=b _ c;omega)
 ·exactλe a=>(h.uh e a).ay f (λk c=>by have:=b _ c;omega)
 ·exact h.ay.trans f (λk c=>(r k c).imp id (λc=>by omega))
 ·exact⟨a.1,a.2.1,ah a.2.2 f.size⟩
def xI.still{l wr n:J}{c:Nat}{K a:DK}{d f:Nat}{g h:List M}{b:List (List ar)}(q:xI l wr c K a d f g h b)(e:I (λ_=>False) wr n):xI l n c K a d f g h b:=q.move e (λ_ o=>o.elim) (q.aH.ay e (λ_ _=>id)) ⟨rfl,rfl,λ_ o=>o⟩
def xI.put{w0 wr F:J}{U:Nat}{al K1:DK}{gb lb:Nat}{mv K:List M}{Ts:List (List ar)}{j:Nat}{v E:M}{T:List ar}{t:ar}(s:xI w0 wr U al K1 gb lb mv K Ts)(D:K[j]?=some v)(hT:Ts[j]?=some T)(hw:du wr F v E)(ho:F.ownsRow (lb+1) 199 1 E (T++[t]).length ((T++[t]).map ar.ptr))(ac:xH wr U lb K t)(X:t.tb∉Ts.flatten.map ar.tb):xI w0 (F.setCell ⟨lb,j,none⟩ E) U al K1 gb lb mv (K.set j E) (Ts.set j (T++[t])):=by
 have C:I (λk=>v.ownBlock=some k) wr F:=I.dU hw;have H:=λq=>s.own (q:=q) D;have z:=s.ord;have O:=s.low;have W:F.heap[lb]?=some (.cells K.toArray 107 (0,0)):=(C.block lb (ak s.box) (λe=>by have:=H _ e;omega)).trans s.box;have o:I (λk=>k=lb) F (F.setCell ⟨lb,j,none⟩ E):=(I.refl (λk=>k=lb) F).setCell _ _ _ (.inl rfl);have R:∀q,E.ownBlock=some q->lb<q/\q<F.heap.size:=λq g=>by have:=aK ho q g;omega
 have y:∀q,q<wr.heap.size->(∀(i:Nat)(u:M),K[i]?=some u->u.ownBlock≠some q)->E.ownBlock≠some q:=λq g h e=>by
  rcases hw.sr with c|⟨an,c,hy⟩
  ·exact h j v D (c.symm.trans e)
  ·rw[c]at e;cases e;omega
 have B:∀u,xH wr U lb K u->xH (F.setCell ⟨lb,j,none⟩ E) U lb (K.set j E) u:=by
  rintro u⟨bb,bJ,hm,h1,G,h3,h4,h⟩;have ad:js F u.tb (.pointer (some ⟨U,0,none⟩)) u.num (cC u.cs).length (dz (aW 0 u.cs)).length (jv (dz (aW 0 u.cs))) bb 0 bJ (.slice none 0 0) u.ks:=hm.dh (C.block _ G (λe=>(h j v D).1 e)) (C.block _ h4 (λe=>(h j v D).2 e));have g2:=ah G C.size;have g4:=ah h4 C.size;refine⟨bb,bJ,ad.dh (o.block _ g2 (by omega)) (o.block _ g4 (by omega)),h1,by rw[gp];exact g2,h3,by rw[gp];exact g4,?_⟩;intro i x r;by_cases e:j=i
  ·subst e;rw[eI,D]at r;cases r;exact⟨y _ G (λi u d=>(h i u d).1),y _ h4 (λi u d=>(h i u d).2)⟩
  ·rw[dN e]at r;exact h i x r
 have A:=vy (t:=t) hT;refine⟨?_,?_,by rw[fB];exact s.uf,by rw[fB];exact s.yl,?_,?_,?_,s.same,?_,?_,?_,O,?_⟩
 ·exact(o.block gb (ah (ak s.IZ) C.size) (by omega)).trans ((C.block gb (ak s.IZ) (λe=>by have:=H _ e;omega)).trans s.IZ)
 ·rw[aL W];simp
 ·intro i u G d h;by_cases e:j=i
  ·subst e;rw[eI]at d h;rw[D]at d;rw[hT]at h;cases d;cases h;exact o.own ho (λq g e=>by have:=R q g;omega)
  ·rw[dN e]at d h;have r:=C.own (s.rows i u G d h) (λq g c=>s.ne i j u v q (Ne.symm e) d D g c);exact o.own r (λq g e=>by have:=s.own d g;omega)
 ·intro i i' u u' q G d r g;by_cases e:j=i
  ·subst e;rw[dN G]at r;rw[eI,D]at d;cases d;intro h;change E.ownBlock=some q at g;rcases hw.sr with c|⟨an,c,hy⟩
   ·exact s.ne _ _ _ _ q G D r (c.symm.trans g) h
   ·rw[c]at g;cases g;have:=s.own r h;omega
  ·rw[dN e]at d;by_cases e':j=i'
   ·subst e';rw[eI,D]at r;cases r;intro h;change E.ownBlock=some q at h;rcases hw.sr with c|⟨an,c,hy⟩
    ·exact s.ne _ _ _ _ q G d D g (c.symm.trans h)
    ·rw[c]at h;cases h;have:=s.own d g;omega
   ·rw[dN e']at r;exact s.ne _ _ _ _ q G d r g
 ·exact(s.aH.ay C (λk c e=>by have:=H _ e;have:=O k (s.same.2.2 k c);omega)).ay o (λk c e=>by have:=O k (s.same.2.2 k c);omega)
 ·intro u d;rcases aD.1 (A.mem_iff.1 d)with rfl|d
  ·exact B _ ac
  ·exact B u (s.uh u d)
 ·rw[(A.map ar.tb).nodup_iff,aY,iA];exact⟨X,s.BO⟩
 ·exact(s.ay.trans C (λk e=>.inr (by have:=H _ e;omega))).trans o (λk e=>.inr (by have:k=lb:=e;omega))
 ·exact⟨z.1,z.2.1,by rw[gp];exact ah z.2.2 C.size⟩
def Steps.ay{S:Nat->Prop}{w w':J}(h:Steps w)(e:I S w w')(a:¬S 1):Steps w':=λk d=>e.cell (h k d) a h.lt
def lD(a:List (List ar)):List (List ar):=a.map (List.map ar.mi)
def lC{a:List (List ar)}{i:Nat}{m:List ar}(h:a[i]?=some m):(lD a)[i]?=some (m.map ar.mi):=by simp[lD,h]
def xI.Qj{p wr:J}{f:Nat}{K e:DK}{g n:Nat}{o d:List M}{a:List (List ar)}(h:xI p wr f K e g n o d a){j:Nat}{v:M}{T:List ar}(c:d[j]?=some v)(b:a[j]?=some T)(k:T.length<=1000000000):ii wr v T where
 row:=cW (h.rows j v T c b)
 lt:=λk b=>(h.own c b).2
 each:=λt m=>by
  obtain⟨q,bJ,l,_⟩:=h.uh t (bH.2 ⟨T,gl b,m⟩);exact⟨_,_,_,_,_,_,_,_,_,l⟩
 small:=k
def yS(w:J)(F:Nat)(K:DK)(s:List (List ar))(x0 x1 x2 x3:Option Addr)(n0 c0 n1 c1 n2 c2 n3 c3:Nat)(bv:bR w F K)(q:Steps w)(bh:Pow w)(ee:¬K.aS F 1)(ed:¬K.aS F 3)(h4:s.length=4)(U:∀(j:Nat)(ac:M)(m:List ar),[Value.slice x0 n0 c0,.slice x1 n1 c1,.slice x2 n2 c2,.slice x3 n3 c3][j]?=some ac->s[j]?=some m->Row w 4 ac m.length (cf m))(bT:∀(j:Nat)(ac:M),[Value.slice x0 n0 c0,.slice x1 n1 c1,.slice x2 n2 c2,.slice x3 n3 c3][j]?=some ac->∀k,ac.ownBlock=some k->k<w.heap.size/\¬K.aS F k)(h:∀ej∈s.flatten,zP ej)(hf:∀ej∈s.flatten,cR (vw K.files) (eM ej.num)=some (jD ej.cs))(V:∀(j:Nat)(m:List ar),0<j->s[j]?=some m->jp m)(ef:s.flatten.length<=1000000):Calls prog 78 #[.pointer (some ⟨F,0,none⟩),.agg #[.slice x0 n0 c0,.slice x1 n1 c1,.slice x2 n2 c2,.slice x3 n3 c3]] w λcj w'=>
 ∃y0 m0 a y1 m1 b y2 m2 c y3 m3 d,cj=.returned (.tuple #[.agg #[.slice y0 m0 a,.slice y1 m1 b,.slice y2 m2 c,.slice y3 m3 d],.nilIface])/\∃e Ts,xI w w' F K e w.heap.size (w.heap.size+2) [.slice x0 n0 c0,.slice x1 n1 c1,.slice x2 n2 c2,.slice x3 n3 c3] [.slice y0 m0 a,.slice y1 m1 b,.slice y2 m2 c,.slice y3 m3 d] Ts/\lD Ts=lD s:=by
 obtain⟨i0,fs,fx,fz,fL⟩:=bK rK
 have gf:∀(gc:Bool)(w:J),(Op.unary .not (.bool gc)).run prog w=.ok (.bool (!gc)) w:=λ_ _=>rfl
 obtain⟨mv,cb⟩:∃mv:List M,mv=[.slice x0 n0 c0,.slice x1 n1 c1,.slice x2 n2 c2,.slice x3 n3 c3]:=⟨_,rfl⟩
 rw[<-cb]at U bT|-
 obtain⟨W1,x⟩:∃W1,((w.alloc (.cells mv.toArray 153)).alloc (.cells #[.slice none 0 0,.slice none 0 0,.slice none 0 0,.slice none 0 0] 107)).alloc (.cells #[.slice none 0 0,.slice none 0 0,.slice none 0 0,.slice none 0 0] 107)=W1:=⟨_,rfl⟩
 have bq:I (λ_=>False) w W1:=by rw[<-x];exact(((I.refl (λ_=>False) w).alloc _).alloc _).alloc _
 have cB:W1.heap[w.heap.size+1]?=some (.cells #[.slice none 0 0,.slice none 0 0,.slice none 0 0,.slice none 0 0] 107 (0,0)):=by rw[<-x];exact(dL _ (by simp)).trans (az _ (by simp))
 have hA0:xI w W1 F K K w.heap.size (w.heap.size+2) mv [.slice none 0 0,.slice none 0 0,.slice none 0 0,.slice none 0 0] [[],[],[],[]]:=by
  refine⟨?_,?_,rfl,rfl,?_,?_,bv.ay bq (λ_ _=>id),⟨rfl,rfl,λ_ B=>B⟩,by simp,by simp,bq.mono (λ_ B=>B.elim),bv.lt,?_⟩
  ·rw[<-x];exact(dL _ (by simp;omega)).trans ((dL _ (by simp)).trans (az _ rfl))
  ·rw[<-x];exact az _ (by simp)
  ·intro j ac an n q;have cj:ac=.slice none 0 0/\an=[]:=by
    rcases j with _|_|_|_|j<;>simp at n q<;>exact⟨n.symm,q⟩
   rw[cj.1,cj.2];exact bC _ _ _ _
  ·intro j a ac b gb _ n _ hq;have cj:ac=.slice none 0 0:=by
    rcases j with _|_|_|_|j<;>simp at n<;>exact n.symm
   rw[cj]at hq;cases hq
  ·refine⟨ai _,by omega,?_⟩;rw[<-x];simp
 have ck:=Z hA0
 have es:=Z cB
 have HT:=Z q
 have HP:=Z bh
 have cm:=Z U
 have cl:=Z bT
 have eq:=Z h
 have HF:=Z hf
 have bo:=Z V
 have H4:=Z h4
 have ex:=Z ef
 have en:=Z cb
 have fb:=Z x
 have cv:=Z ee
 have fn:=Z ed
 clear bv q bh U bT h hf V h4 ef cb bq cB hA0 x ee ed
 go_enter func78,ntmps78
 go_wp2_with fail
 rw[Y fb]
 have e2:w.heap.size+1+1=w.heap.size+2:=rfl
 rw[e2]
 obtain⟨d,bx⟩:∃d,w.heap.size+2=d:=⟨_,rfl⟩
 rw[bx]at ck|-
 have eb:∀(i:Nat)(m:List ar),s[i]?=some m->m.length<=1000000:=λi m L=>by
  have D:=Y ex;have h2:m.length<=s.flatten.length:=lZ (cu (gl L));omega
 have em:=Z eb
 have al:=Z bx
 clear eb e2 bx
 go_loopw [12] (λa wr=>∃(i:Nat)(K1:DK)(vs:List M)(Ts:List (List ar)),i<=4/\a=.int .i64 i/\xI w wr F K K1 w.heap.size d mv vs Ts/\kB (lD s) (lD Ts) i 0/\wr.heap[w.heap.size+1]?=some (.cells #[.slice none 0 0,.slice none 0 0,.slice none 0 0,.slice none 0 0] 107 (0,0))) (λa _=>4-(intOf a).toNat)
 case atStart=>exact⟨0,_,_,_,aU _,rfl,Y ck,kB.start (lD s),Y es⟩
 case round=>
  obtain⟨i,K1,vs,Ts,hi,rfl,v,ao,a⟩:=hrel;by_cases G:i<4
  ·have N:=Z a;clear a;have dx:i<s.length:=by rw[Y H4];exact G
   obtain⟨m,L⟩:∃m,s[i]?=some m:=⟨_,aA dx⟩;have bf:i<mv.length:=by rw[Y en];exact G
   obtain⟨ac,n⟩:∃ac,mv[i]?=some ac:=⟨_,aA bf⟩;have cd:=(Y cm) i ac m n L;obtain⟨gc,B,fv⟩:∃gc B,ac=.slice gc m.length B:=by
    obtain⟨q1,⟨q2,q0⟩|⟨gn,bn,cx,q2,_⟩⟩:=cd
    ·exact⟨none,0,by rw[q2,q0]⟩
    ·exact⟨_,_,q2⟩
   subst fv;have fu:=(Y em) i m L;have hc:=(v.Pv i).trans n;have e1:(i:Int)<4:=by omega
   have e0:(0:Int)<=(i:Int):=by omega
   have HA:=Z v;have eu:=Z ao;have HM:=Z L;have HV:=Z n;have ev:=Z cd;clear v ao L n cd dx bf;go_wp2_with fail
   go_loopw [19] (λb a=>∃(k:Nat)(K1:DK)(vs:List M)(Ts:List (List ar)),k<=m.length/\b=.int .i64 k/\xI w a F K K1 w.heap.size d mv vs Ts/\kB (lD s) (lD Ts) i k/\a.heap[w.heap.size+1]?=some (.cells #[.slice none 0 0,.slice none 0 0,.slice none 0 0,.slice none 0 0] 107 (0,0))) (λb _=>m.length-(intOf b).toNat)
   case atStart=>exact⟨0,_,_,_,aU _,rfl,Y HA,Y eu,Y N⟩
   case round=>
    obtain⟨k,K2,H,o,hk,rfl,hA2,c,T⟩:=hrel;have b:=Z T;clear T;by_cases E:k<m.length
    ·have L:=Y HM;have R:m[k]∈s.flatten:=bH.2 ⟨m,gl L,au E⟩;have h:=(Y eq) _ R;have dn:=(Y HF) _ R;have bk:=hA2.ay.row (Y ev) (λgb hq=>⟨((Y cl) i _ (Y HV) gb hq).2,((Y cl) i _ (Y HV) gb hq).1⟩);obtain⟨gi,f,hx,Q⟩:∃gi f,gc=some ⟨gi,f,none⟩/\∀j u,(m[k].qh)[j]?=some u->wr.cell? ⟨gi,f+(k*4+j),none⟩=some u:=by
      obtain⟨q1,⟨q2,q0⟩|⟨gn,bn,cx,q2,bd,A⟩⟩:=bk
      ·omega
      ·cases q2;refine⟨gn,bn,rfl,λj u hu=>A _ _ ?_⟩;have hj:j<4:=by
        rcases cJ j 4 with B|B
        ·exact B
        ·rw[ci (by simpa[ar.qh]using B)]at hu;cases hu
       rw[AP m k j E hj];exact hu
     subst hx;have db:=Q 0 _ rfl;have dc:=Q 1 _ rfl;have bs:=Q 2 _ rfl;have bt:=Q 3 _ rfl;have ax:i<o.length:=by rw[hA2.yl];exact G
     obtain⟨an,q⟩:∃an,o[i]?=some an:=⟨_,aA ax⟩;have br:an.length=k:=by
      have D:=c.now _ (lC L);rw[lC q]at D;have h2:=bB List.length (dm D);simp at h2;omega
     have r:an.map ar.mi=(m.map ar.mi).take k:=by
      have D:=c.now _ (lC L);rw[lC q]at D;exact dm D
     have bb:i<H.length:=by rw[hA2.uf];exact G
     obtain⟨ac,n⟩:∃ac,H[i]?=some ac:=⟨_,aA bb⟩;have e:=hA2.rows i ac an n q;rw[br]at e;obtain⟨ox,oc,cc⟩:=aC e;subst cc;have bi:=c.one (lC L);have ei:(m.map ar.mi).take (k+1)=(m.map ar.mi).take k++[m[k].mi]:=by
      rw[aq (by simpa using E)];simp
     have hA3:=hA2.still ((I.refl (λ_=>False) wr).alloc (.cells #[.int .u64 m[k].num,.int .u32 (cC m[k].cs).length,.int .u32 (dz (aW 0 m[k].cs)).length,.int .u32 (jv (dz (aW 0 m[k].cs)))] 233));rw[h.ks]at bs bt;generalize m[k]=ej at*;have p:=CX _ F ej.num h.num K2 ej.cs h.idx (Steps.ay (Y HT) hA3.ay (Y cv)) (Pow.ay (Y HP) hA3.ay (Y fn)) h.small (λB=>(Y cv) (hA2.same.2.2 _ B)) hA3.aH (by rw[hA2.same.1];exact dn);unfold zf at p;have ba:=h.num;have dT:=h.ks;have t:=Z hA2;have ad:=Z hA3;have O:=Z n;have cp:=Z q;have cs:=Z br;have bp:=Z r;have ey:=Z ei;have C:=Z bi;have el:=Z dT;have e4:(k:Int)<(m.length:Int):=by omega
     have e5:(0:Int)<=(k:Int):=by omega
     have k0:wr.cell? ⟨d,i,none⟩=some (.slice ox k oc):=(hA2.cell i).trans n;have e6:f+(k*4+0)=f+k*4:=by omega
     have e7:f+(k*4+1)=f+k*4+1:=by omega
     have e8:f+(k*4+2)=f+k*4+2:=by omega
     have e9:f+(k*4+3)=f+k*4+3:=by omega
     rw[e6]at db;rw[e7]at dc;rw[e8]at bs;rw[e9]at bt;clear hA2 hA3 e n q br r ei bi dT h dn bk Q L R ax bb c e6 e7 e8 e9;obtain⟨gk,tk,g,tn⟩:=ej;simp only at db dc bs bt p ba;generalize cE:(cC g).length=tl at*;generalize cM:(dz (aW 0 g)).length=ti at*;generalize cT:jv (dz (aW 0 g))=tc at*;have fd:=Z cE;have fe:=Z cM;have fk:=Z cT;clear cE cM cT;have ca:=(Y t).ord;have cn:=Z (show wr.heap.size<(wr.alloc (.cells #[.int .u64 tn,.int .u32 tl,.int .u32 ti,.int .u32 tc] 233)).heap.size by simp);go_wp2_with fail
     refine p.mono ?_;rintro cj w3⟨X,ge,bJ,rfl,P,ds,dv,K3,hd,dk,ea,bc⟩;have hA4:=(Y ad).move hd.ay (λgb hq=>.inl ((Y ad).same.2.2 gb hq)) hd.ok ⟨dk,ea,bc⟩;have eg:=Y cn;have gj:d<wr.heap.size:=ca.2.2;have z:=(hd.ay.block _ (by have:=ak (Y b);omega) (λB=>by have:=(Y ad).low _ ((Y ad).same.2.2 _ B);omega)).trans ((dL _ (ak (Y b))).trans (Y b));have bl:xH w3 F d H ⟨X,tk,g,tn⟩:=by
      refine⟨ge,bJ,?_,by show d<X;omega,ak P.box,by omega,?_,λj u hu=>⟨λB=>?_,λB=>?_⟩⟩
      ·show js w3 X (.pointer (some ⟨F,0,none⟩)) tn (cC g).length (dz (aW 0 g)).length (jv (dz (aW 0 g))) ge 0 bJ (.slice none 0 0) tk;rw[Y fd,Y fe,Y fk,Y el];exact P
      ·have A:0<(cO (aW 0 g)).length:=by
        have:=P.ne;rcases hq:aW 0 g with _|⟨gb,gr⟩
        ·rw[hq]at this;simp at this
        ·simp[cO,fW.cells]
       have:=P.cells 0 _ (aA A);exact cI w3 _ this
      ·have D:=((Y t).own hu B).2;have h2:wr.heap.size<=X:=by omega
       simp only at D;omega
      ·have D:=((Y t).own hu B).2;omega
     have bg:X∉o.flatten.map ar.tb:=λB=>by
      obtain⟨u,hu,cj⟩:=aZ.1 B;obtain⟨_,_,_,_,h2,_⟩:=(Y t).uh u hu;omega
     have y:=hA4.rows i _ an (Y O) (Y cp);rw[Y cs]at y;have k1:w3.cell? ⟨d,i,none⟩=some (.slice ox k oc):=(hA4.cell i).trans (Y O);have ce:d<w3.heap.size:=hA4.ord.2.2;have fl:=Z (show∀v5 w5,w5.ownsRow (d+1) 199 1 v5 (k+1) (an.map ar.ptr++[.pointer (some ⟨X,0,none⟩)])->du (w3.alloc (.cells #[.pointer (some ⟨X,0,none⟩)] 199)) w5 (.slice ox k oc) v5->xI w (w5.setCell ⟨d,i,none⟩ v5) F K K3 w.heap.size d mv (H.set i v5) (o.set i (an++[⟨X,tk,g,tn⟩]))/\(w5.setCell ⟨d,i,none⟩ v5).heap[w.heap.size+1]?=some (.cells #[.slice none 0 0,.slice none 0 0,.slice none 0 0,.slice none 0 0] 107 (0,0))/\w5.cell? ⟨d,i,none⟩=some (.slice ox k oc)/\w5.frozen? ⟨d,i,none⟩=false from by
      intro v5 w5 S W;have A:I (λ_=>False) w3 (w3.alloc (.cells #[.pointer (some ⟨X,0,none⟩)] 199)):=(I.refl (λ_=>False) w3).alloc _;have hA5:=hA4.still A;have ch:=I.dU W;have ec:(Value.slice ox k oc).ownBlock≠some d:=λB=>by have:=(hA4.own (Y O) B).1;omega
      have fr:=(ch.block d (ah ce A.size) ec).trans hA5.box;refine⟨hA5.put (Y O) (Y cp) W ?_ (bl.ay A (λ_ B=>B.elim)) bg,?_,?_,by simp[World.frozen?,fr]⟩
      ·rw[ag,Y cs,aN];exact S
      ·have bd:=ak z;exact(eP v5 (by have:=Y al;omega)).trans ((ch.block _ (ah bd A.size) (λB=>by have:=(hA4.own (Y O) B).1;have:=Y al;omega)).trans ((A.block _ bd id).trans z))
      ·exact ch.cell (A.cell k1 id ce) ec (ah ce A.size))
     have eo:=Z y;clear P ds dv hd dk ea bc hA4 bl bg y p k0 eg z;go_wp2_with(first
      |(at_builtin;go_loud(refine aX _ rfl (.tmp 36) (.tmp 38) 105 rfl (d+1) 199 i0 (.pointer none) 1 8 underlying105 fs fx fz fL rfl (by decide) (.slice ox k oc) k (an.map ar.ptr) rfl (aM (Y eo) _) ⟨w3.heap.size,0,none⟩ 1 1 [.pointer (some ⟨X,0,none⟩)] rfl rfl (pu _ _ _) (by simp[Value.oneCell']) (by omega) (by omega) (by simp;omega) ?_;intro v5 w5 S W;obtain⟨hA5,y2,y0,y1⟩:=(Y fl) v5 w5 S W;obtain⟨x5,c5,rfl⟩:=aC S;have ek:=Z hA5;have et:=Z y2;clear S W hA5 y2)))
     go_roundw;case rel=>
      refine⟨k+1,K3,_,_,E,by go_num,Y ek,?_,Y et⟩;have D:=Y C;have h2:lD (o.set i (an++[⟨X,tk,g,tn⟩]))=(lD o).set i ((m.map ar.mi).take (k+1)):=by
       unfold lD;rw[uD,aN,Y bp,Y ey];rfl
      rw[h2];exact D
     case measure=>simp[intOf];omega
    ·have P:k=m.length:=by omega
     subst P;have ax:i<o.length:=by rw[hA2.yl];exact G
     obtain⟨an,q⟩:∃an,o[i]?=some an:=⟨_,aA ax⟩;have bb:i<H.length:=by rw[hA2.uf];exact G
     obtain⟨ac,n⟩:∃ac,H[i]?=some ac:=⟨_,aA bb⟩;have r:iF m an:=by
      have D:=c.now _ (lC (Y HM));rw[lC q]at D;have h2:=dm D;rw[bP (by simp)]at h2;exact h2
     have g:=hA2.Qj n q (by rw[r.length];omega);have e:=hA2.rows i ac an n q;obtain⟨ox,oc,cc⟩:=aC e;subst cc;have k0:wr.cell? ⟨d,i,none⟩=some (.slice ox an.length oc):=(hA2.cell i).trans n;have f:=(show kB (lD s) (lD o) i (m.map ar.mi).length by rw[bW];exact c).sW (lC (Y HM)) (by unfold lD;rw[bW];exact Y H4);have e4:¬((m.length:Int)<(m.length:Int)):=by omega
     have t:=Z hA2;have C:=Z f;by_cases z:i=0
     ·subst z;clear hA2 c g e q n f;go_wp2;go_roundw;case rel=>exact⟨1,_,_,_,by omega,by go_num,Y t,Y C,Y b⟩
      case measure=>simp[intOf]
     ·have y:=Ka wr _ an g (r.side ((Y bo) i m (by omega) (Y HM))).apart;have e6:(0:Int)<(i:Int):=by omega
      clear hA2 c g e q n f;go_wp2_with fail
      refine y.mono ?_;rintro cj Q⟨rfl,p⟩;have A:=Z ((Y t).still (I.aR p));have O:=Z ((p.block _ (ak (Y b))).trans (Y b));clear p y;go_wp2;go_roundw;case rel=>exact⟨i+1,_,_,_,by omega,by go_num,Y A,Y C,Y O⟩
      case measure=>simp[intOf];omega
  ·have C:i=4:=by omega
   subst C;have r:=ao.all (by unfold lD;rw[bW];exact Y H4) (by unfold lD;rw[bW];exact v.yl);have e:=v.uf;obtain⟨E,H,O,P,rfl⟩:∃E H O P,vs=[E,H,O,P]:=by
    rcases vs with _|⟨E,_|⟨H,_|⟨O,_|⟨P,_|⟨v4,gr⟩⟩⟩⟩⟩<;>simp at e;exact⟨_,_,_,_,rfl⟩
   obtain⟨f,W,Q⟩:=v.row (j:=0) rfl;obtain⟨g,X,R⟩:=v.row (j:=1) rfl;obtain⟨o,ad,S⟩:=v.row (j:=2) rfl;obtain⟨p,ax,T⟩:=v.row (j:=3) rfl;obtain⟨t,y0,rfl⟩:=aC Q;obtain⟨y,y1,rfl⟩:=aC R;obtain⟨z,y2,rfl⟩:=aC S;obtain⟨A,y3,rfl⟩:=aC T;have r0:wr.cell? ⟨d,0,none⟩=some (.slice t f.length y0):=by rw[aj v.box];rfl
   have r1:wr.cell? ⟨d,1,none⟩=some (.slice y g.length y1):=by rw[aj v.box];rfl
   have r2:wr.cell? ⟨d,2,none⟩=some (.slice z o.length y2):=by rw[aj v.box];rfl
   have r3:wr.cell? ⟨d,3,none⟩=some (.slice A p.length y3):=by rw[aj v.box];rfl
   have t0:wr.cell? ⟨w.heap.size+1,0,none⟩=some (.slice none 0 0):=by rw[aj a];rfl
   have t1:wr.cell? ⟨w.heap.size+1,1,none⟩=some (.slice none 0 0):=by rw[aj a];rfl
   have t2:wr.cell? ⟨w.heap.size+1,2,none⟩=some (.slice none 0 0):=by rw[aj a];rfl
   have t3:wr.cell? ⟨w.heap.size+1,3,none⟩=some (.slice none 0 0):=by rw[aj a];rfl
   have ba:∀i,wr.frozen? ⟨w.heap.size+1,i,none⟩=false:=λi=>by simp[World.frozen?,a]
   have HA:=Z v;have bp:=Z r;have N:=Z a;have e5:¬((4:Int)<4):=by omega
   clear v ao Q R S T r a e;go_wp2;have b:=aL (i:=3) (u:=.slice A p.length y3) (aL (i:=2) (u:=.slice z o.length y2) (aL (i:=1) (u:=.slice y g.length y1) (aL (i:=0) (u:=.slice t f.length y0) (Y N))));have c:=((((I.refl (λk=>k=w.heap.size+1) wr).setCell (w.heap.size+1) 0 (.slice t f.length y0) (.inl rfl)).setCell (w.heap.size+1) 1 (.slice y g.length y1) (.inl rfl)).setCell (w.heap.size+1) 2 (.slice z o.length y2) (.inl rfl)).setCell (w.heap.size+1) 3 (.slice A p.length y3) (.inl rfl);refine bO (rF rfl _ _ (w.heap.size+1) _ _ _ _ _ _ rfl b ⟨_,_,_,rfl⟩ ⟨_,_,_,rfl⟩ ⟨_,_,_,rfl⟩ ⟨_,_,_,rfl⟩) rfl ?_;refine⟨t,f.length,y0,y,g.length,y1,z,o.length,y2,A,p.length,y3,rfl,K1,Ts,?_,Y bp⟩;rw[Y al];have hd:=(Y HA).aH.ay c (λk B cj=>by have:=(Y HA).low k ((Y HA).same.2.2 k B);have:k=w.heap.size+1:=cj;omega);exact(Y HA).move c (λk cj=>.inr (by have:k=w.heap.size+1:=cj;have:=Y al;omega)) hd ⟨rfl,rfl,λ_ B=>B⟩
def Jb(e:Nat)(K:DK)(next a aO:Nat)(c:List (List ar))(w:J)(bx:bR w e K)(hT:Steps w)(bn:¬K.aS e 1)(h4:c.length=4)(hn:next<18446744073709551616)(hl:a<next)(bh:aO<18446744073709551616)(bo:c.flatten.length<=1000000)(ac:∀bT∈c.flatten,bT.kP)(E:(c.flatten.map ar.num).Nodup)(D:∀bT∈c.flatten,bT.num<next/\bT.num≠a)(hg:cR (vw K.files) eS=some (fJ next a aO c)):Calls prog 77 #[.pointer (some ⟨e,0,none⟩)] w λH f=>
 ∃r n g s o c1 t p c2 v q c3,H=.returned (.tuple #[.agg #[.int .u64 next,.int .u64 a,.int .u64 aO,.slice r n g,.slice s o c1,.slice t p c2,.slice v q c3],.nilIface])/\(∀(bp:Nat)(bq:M)(an:List ar),[Value.slice r n g,.slice s o c1,.slice t p c2,.slice v q c3][bp]?=some bq->c[bp]?=some an->f.ownsRow w.heap.size 233 4 bq an.length (cf an))/\∃d,nJ w f e K d/\d.files=K.files/\d.cY=K.cY/\∀k,d.aS e k->K.aS e k:=by
 obtain⟨G,h⟩:∃G,w.alloc (.cells #[.int .u64 0,.int .u64 0,.int .u64 0,.slice none 0 0,.slice none 0 0,.slice none 0 0,.slice none 0 0] 155)=G:=⟨_,rfl⟩
 have A:I (λ_=>False) w G:=by rw[<-h];exact(I.refl (λ_=>False) w).alloc _
 have L:G.heap[w.heap.size]?=some (.cells #[.int .u64 0,.int .u64 0,.int .u64 0,.slice none 0 0,.slice none 0 0,.slice none 0 0,.slice none 0 0] 155 (0,0)):=by rw[<-h];exact az _ rfl
 have cj:G.heap.size=w.heap.size+1:=by rw[<-h];simp
 have W:(fJ next a aO c).length<=21000100/\0<(fJ next a aO c).length:=by
  have h1:fJ next a aO c=fS (le 8 (next:Nat)++(le 8 (a:Nat)++(le 8 (aO:Nat)++ml c 0))):=by
   unfold fJ ml;simp
  have h2:=uR c 0;rw[h1,eF];simp only[ag,bw];omega
 have ax:=Z bx.lt
 have z:Calls prog 80 #[.pointer (some ⟨e,0,none⟩),.string eS] G λH f=>∃bs x,H=.returned (.tuple #[.slice (some ⟨bs,0,none⟩) (fJ next a aO c).length x,.nilIface])/\f.heap[w.heap.size]?=some (.cells #[.int .u64 0,.int .u64 0,.int .u64 0,.slice none 0 0,.slice none 0 0,.slice none 0 0,.slice none 0 0] 155 (0,0))/\(∃d,nJ w f e K d/\d.files=K.files/\d.cY=K.cY/\∀k,d.aS e k->K.aS e k)/\w.heap.size<f.heap.size/\Calls prog 122 #[.slice (some ⟨bs,0,none⟩) (fJ next a aO c).length x] f λH ad=>
  ∃r n g s o c1 t p c2 v q c3,H=.returned (.tuple #[.agg #[.int .u64 next,.int .u64 a,.int .u64 aO,.slice r n g,.slice s o c1,.slice t p c2,.slice v q c3],.bool true])/\
  (∀(bp:Nat)(bq:M)(an:List ar),[Value.slice r n g,.slice s o c1,.slice t p c2,.slice v q c3][bp]?=some bq->c[bp]?=some an->ad.ownsRow f.heap.size 233 4 bq an.length (cf an))/\I (λ_=>False) f ad:=by
  refine(Dq e K eS _ G (bx.ay A (λ_ _=>id)) hg (by omega)).mono ?_
  rintro H f⟨v',rfl,ho,d,y,e1,e2,Q⟩
  have bk:=ho
  obtain⟨q1,⟨q2,q0⟩|⟨cb,cp,ca,q2,cc,hh,bi,ce,bl⟩⟩:=bk
  ·omega
  ·subst q2;have bg:Steps f:=Steps.ay (Steps.ay hT A id) y.ay bn;have N:¬K.aS e w.heap.size:=λx=>by have:=bx.lt _ x;omega
   refine⟨cb,cp,rfl,(y.ay.block _ (ak L) N).trans L,⟨d,⟨y.ok,(A.mono (T:=K.aS e) (λ_ x=>x.elim)).trans y.ay (λ_ x=>.inl x),λk x=>.inl (Q k x)⟩,e1,e2,Q⟩,by have:=y.ay.size;omega,?_⟩;exact Gx cb 0 cp next a aO c f bg h4 hn hl bh bo ac E D bi (ho.lt cb rfl).2 (dq.bytes ho)
 have V:=λW=>LI 10 W
 unfold eS at z
 obtain⟨SL,U⟩:∃SL,(fJ next a aO c).length=SL:=⟨_,rfl⟩
 rw[U]at z
 have bf:=Z h
 have ch:∀w:J,(binOp .neq 50 .nilIface .nilIface).run prog w=.ok (.bool false) w:=λ_=>rfl
 have bv:∀(bs:Bool)(w:J),(Op.unary .not (.bool bs)).run prog w=.ok (.bool (!bs)) w:=λ_ _=>rfl
 clear bx hT hg ac E D A L h U W
 go_enter func77,ntmps77
 go_wp2_with fail
 rw[Y bf]
 refine z.mono ?_
 rintro H w2⟨bs,x,rfl,S,R,X,C⟩
 have ba:=Z S
 have ao:=Z R
 clear S R z
 go_wp2_with fail
 refine(V _).mono ?_
 rintro H br⟨rfl,hw⟩
 subst br
 go_wp2_with fail
 refine C.mono ?_
 rintro H B⟨r,n,g,s,o,c1,t,p,c2,v,q,c3,rfl,j,P⟩
 have b:=(P.block _ X id).trans (Y ba)
 have bt:=ak b
 have bd:=Z P
 have bc:=Z j
 have t0:B.cell? ⟨w.heap.size,0,none⟩=some (.int .u64 0):=by rw[aj b];rfl
 have t1:B.cell? ⟨w.heap.size,1,none⟩=some (.int .u64 0):=by rw[aj b];rfl
 have t2:B.cell? ⟨w.heap.size,2,none⟩=some (.int .u64 0):=by rw[aj b];rfl
 have t3:B.cell? ⟨w.heap.size,3,none⟩=some (.slice none 0 0):=by rw[aj b];rfl
 have t4:B.cell? ⟨w.heap.size,4,none⟩=some (.slice none 0 0):=by rw[aj b];rfl
 have t5:B.cell? ⟨w.heap.size,5,none⟩=some (.slice none 0 0):=by rw[aj b];rfl
 have t6:B.cell? ⟨w.heap.size,6,none⟩=some (.slice none 0 0):=by rw[aj b];rfl
 have cd:∀i,B.frozen? ⟨w.heap.size,i,none⟩=false:=λi=>by simp[World.frozen?,b]
 have bb:=Z b
 clear j P b C V
 go_wp2
 have F:=aL (i:=6) (u:=.slice v q c3) (aL (i:=5) (u:=.slice t p c2) (aL (i:=4) (u:=.slice s o c1) (aL (i:=3) (u:=.slice r n g) (aL (i:=2) (u:=.int .u64 aO) (aL (i:=1) (u:=.int .u64 a) (aL (i:=0) (u:=.int .u64 next) (Y bb)))))))
 have al:=((((((((I.refl (λk=>k=w.heap.size) B).setCell w.heap.size 0 (.int .u64 next) (.inl rfl)).setCell w.heap.size 1 (.int .u64 a) (.inl rfl)).setCell w.heap.size 2 (.int .u64 aO) (.inl rfl)).setCell w.heap.size 3 (.slice r n g) (.inl rfl)).setCell w.heap.size 4 (.slice s o c1) (.inl rfl)).setCell w.heap.size 5 (.slice t p c2) (.inl rfl)).setCell w.heap.size 6 (.slice v q c3) (.inl rfl)).alloc (.cells #[.int .u64 next,.int .u64 a,.int .u64 aO,.slice r n g,.slice s o c1,.slice t p c2,.slice v q c3] 155)
 have O:=(dL (.cells #[.int .u64 next,.int .u64 a,.int .u64 aO,.slice r n g,.slice s o c1,.slice t p c2,.slice v q c3] 155) (ak F)).trans F
 refine bO (rE rfl _ _ w.heap.size next a aO _ _ _ _ _ _ rfl O ⟨_,_,_,rfl⟩ ⟨_,_,_,rfl⟩ ⟨_,_,_,rfl⟩ ⟨_,_,_,rfl⟩) rfl ?_
 refine⟨r,n,g,s,o,c1,t,p,c2,v,q,c3,rfl,?_,?_⟩
 ·intro bp bq an hv hD;have hr:=(Y bc) bp bq an hv hD;exact gI (al.own hr (λq a H=>by have:=(hr.lt q a).1;have:q=w.heap.size:=H;omega)) (by omega)
 ·obtain⟨d,y,e1,e2,Q⟩:=Y ao;have ad:I (λk=>k=w.heap.size) w2 _:=((Y bd).mono (T:=λk=>k=w.heap.size) (λ_ x=>x.elim)).trans al (λ_ x=>.inl x);have N:∀k,d.aS e k->k<w.heap.size:=λk x=>(Y ax) k (Q k x);exact⟨d,⟨y.ok.ay ad (λk x H=>by have:=N k x;have:k=w.heap.size:=H;omega),y.ay.trans ad (λk H=>.inr (by have:k=w.heap.size:=H;omega)),y.aS⟩,e1,e2,Q⟩
end Go.Proofs.YtophdnlmpfmeiaaGreatDoor
