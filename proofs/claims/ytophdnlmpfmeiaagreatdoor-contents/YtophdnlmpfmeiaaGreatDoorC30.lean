import Derived.Test.YtophdnlmpfmeiaaGreatDoorC27
namespace Go.Proofs.YtophdnlmpfmeiaaGreatDoor
open ChangeShapes WideShapes RowKit Proofs.Tryz
set_option maxHeartbeats 16000000
set_option linter.all false
set_option maxRecDepth 100000
def SR.settled(s:SR)(a b c d:M)(n num:Nat):SR:={s with memory:=.slice none 0 0,fF:=0,aO:=n,l0:=a,l1:=b,l2:=c,l3:=d,next:=num+1,log:=num,bQ:=false,rq:=false,gT:=false,ga:=false}
def Oy{e n o p q:List ar}(r:e.map (λt=>(t.tb,t.ks,t.cs))=(n++o++p++q).map (λt=>(t.tb,t.ks,t.cs))):∃a b c d,e=a++b++c++d/\a.map (λt=>(t.tb,t.ks,t.cs))=n.map (λt=>(t.tb,t.ks,t.cs))/\b.map (λt=>(t.tb,t.ks,t.cs))=o.map (λt=>(t.tb,t.ks,t.cs))/\c.map (λt=>(t.tb,t.ks,t.cs))=p.map (λt=>(t.tb,t.ks,t.cs))/\d.map (λt=>(t.tb,t.ks,t.cs))=q.map (λt=>(t.tb,t.ks,t.cs)):=by
 rw[aN,aN,aN]at r;obtain⟨x,d,rfl,f,g⟩:=iI.1 r;obtain⟨y,c,rfl,h,j⟩:=iI.1 f;obtain⟨a,b,rfl,l,m⟩:=iI.1 h;exact⟨a,b,c,d,rfl,l,m,j,g⟩
def jn{a b:List ar}(h:a.map (λt=>(t.tb,t.ks,t.cs))=b.map (λt=>(t.tb,t.ks,t.cs))):a.map ar.ptr=b.map ar.ptr/\a.length=b.length/\a.map ar.all=b.map ar.all/\bN a=bN b:=by
 have c:=bB (List.map (λp:Nat×List fW×List (List E)=>Value.pointer (some ⟨p.1,0,none⟩))) h;have f:=bB List.length h;have d:=bB (List.map (λp:Nat×List fW×List (List E)=>p.2.2.flatten)) h;simp only[fY,jX]at c d;have e:a.map ar.all=b.map ar.all:=d;refine⟨c,by simpa using f,e,?_⟩;unfold bN;rw[e]
def NZ(w g:J)(sb:Nat)(s:SR)(k:Int)(base u n:Nat)(K:DK)(l:List NT)(x y z A:M)(o p q r j:List ar):Prop:=∃(m wr:J)(h a:DK)(f b c d e:List ar)(num:Nat),I (λ_=>False) w m/\CM m s.aH sb base K j l (o++p++q++r) s.next n wr h f (o++p++q++r).length num/\f=b++c++d++e/\b.map (λt=>(t.tb,t.ks,t.cs))=o.map (λt=>(t.tb,t.ks,t.cs))/\c.map (λt=>(t.tb,t.ks,t.cs))=p.map (λt=>(t.tb,t.ks,t.cs))/\d.map (λt=>(t.tb,t.ks,t.cs))=q.map (λt=>(t.tb,t.ks,t.cs))/\e.map (λt=>(t.tb,t.ks,t.cs))=r.map (λt=>(t.tb,t.ks,t.cs))/\bX g sb (s.settled x y z A u num) k/\bR g s.aH a/\vw a.files=qV (ph (vw h.files) (eS,fJ ((num:Int)+1) num u [b,c,d,e])) (lJ s j f)/\((ph (vw h.files) (eS,fJ ((num:Int)+1) num u [b,c,d,e])).map (·.1)).Nodup/\a.cY.length=(lJ s j f).length/\(∀k,k<w.heap.size->¬K.aS s.aH k->k≠sb->g.heap[k]?=wr.heap[k]?)/\I (λk=>Wr s.aH K l k\/k=sb) w g/\(∀k,a.aS s.aH k->K.aS s.aH k\/w.heap.size<=k)
def EB(w:J)(sb:Nat)(s:SR)(k:Int)(base tB bs B0:Nat)(bf:DK)(ps:List NT)(v0 v1 v2 v3:M)(ca cb ac cc a0 b0 c0 d0:List ar)(bt:bX w sb s k)(hL:LS w s.aH sb base bf (a0++b0++c0++d0) ps tB v0 v1 v2 v3 ca cb ac cc)(hF:∀bl,I (λ_=>False) w bl->CF bl s.aH sb base bf (a0++b0++c0++d0) ps (ca++cb++ac++cc) s.next B0)(md:xQ w sb 10 [(s.l0,a0),(s.l1,b0),(s.l2,c0),(s.l3,d0)])(su:bR w s.aH bf)(hH:¬bf.aS s.aH sb)(up:bs<1000000000000000)(rb:s.log<18446744073709551616)(tn:(a0++b0++c0++d0).length<=1000000)(ed:∀bs hj,cR (vw bf.files) bs=some hj->bs≠qI)(bi:∃oc bs ac,s.memory=.slice oc bs ac)(mc:∀v,v=s.l0\/v=s.l1\/v=s.l2\/v=s.l3->∀k,v.ownBlock=some k->CE s.aH sb base bf k)(dv:∀us,(lJ s (a0++b0++c0++d0) us).Nodup/\∀bs∈lJ s (a0++b0++c0++d0) us,bs≠eS/\∃hj,cR (vw bf.files) bs=some hj):Calls prog 107 #[.pointer (some ⟨sb,0,none⟩),.agg #[v0,v1,v2,v3],.int .u64 bs] w λdk w'=>dk=.returned .nilIface/\NZ w w' sb s k base bs B0 bf ps v0 v1 v2 v3 ca cb ac cc (a0++b0++c0++d0):=by
 obtain⟨x0,g,rfl⟩:=bA hL.r0;obtain⟨x1,h,rfl⟩:=bA hL.r1;obtain⟨x2,j,rfl⟩:=bA hL.r2;obtain⟨x3,l,rfl⟩:=bA hL.r3;have st:=hL.count;have hC:(ca++cb++ac++cc).length<=1000000:=by simp only[ag];omega
 have hE:=Nv w x0 x1 x2 x3 g h j l ca cb ac cc hL.r0 hL.r1 hL.r2 hL.r3 (λk b=>(hL.b0 k b).1) (λk b=>(hL.b1 k b).1) (λk b=>(hL.b2 k b).1) (λk b=>(hL.b3 k b).1) (by omega);obtain⟨WB,ev⟩:∃WB,w.alloc (.cells #[.slice x0 ca.length g,.slice x1 cb.length h,.slice x2 ac.length j,.slice x3 cc.length l] 107)=WB:=⟨_,rfl⟩;rw[ev]at hE;obtain⟨T,od⟩:∃T,ca++cb++ac++cc=T:=⟨_,rfl⟩;have dn:=oh WB w.heap.size 0 _ hE;rw[Ha,Ib,od]at dn;have hN:I (λ_=>False) w WB:=by rw[<-ev];exact(I.refl _ _).alloc _
 have ks:WB.heap[w.heap.size]?=some (.cells #[.slice x0 ca.length g,.slice x1 cb.length h,.slice x2 ac.length j,.slice x3 cc.length l] 107 (0,0)):=by rw[<-ev];exact az _ rfl
 have lv:=(hN.block sb (ak bt) id).trans bt;have tl:WB.cell? ⟨sb,14,none⟩=some (.int .u64 s.next):=bX.cell lv rfl;rw[od]at hF hC;have HH:=Z bt;have c:=Z hL;have HF:=Z hF;have oB:=Z hN;have hQ:=Z ks;have kc:=Z od;have ck:=Z md;have eo:=Z mc;have on:=Z dv;obtain⟨ty,tx,tt,bi⟩:=bi;have ov:=Z bi;clear bt hL hF hE hN ks lv od md mc dv bi;go_enter func107,ntmps107
 go_wp2_with fail
 refine dn.mono ?_;rintro dk w1⟨tA,rfl,hG,hK⟩;obtain⟨xT,tO,rx⟩:=aC hG;subst rx;have x:I (λ_=>False) w w1:=(Y oB).trans hK (λ_ ac=>ac.elim);have hw:=(Y HF) w1 x;have kv:=su.ay x (λ_ _=>id);have kt:=CM.start hw (λbd h0=>((Y c).qL bd h0).Jl (λk b=>x.block k (by have:=b.1;have:=(Y c).le;omega) id)) kv (λk b=>x.cell ((Y c).steps k b) id (by have:=(Y c).dQ.1;have:=(Y c).le;omega)) ((Y c).pow.ay x id);have ip:=Z hG;have gc:=Z x;have ad:=Z hw;have om:=Z kt;have ce:=Z ((x.block sb (ak (Y HH)) id).trans (Y HH));have cd:=Z ((hK.block w.heap.size (ak (Y hQ)) id).trans (Y hQ));have oS:=Z (show w.heap.size+1=WB.heap.size by rw[<-ev];simp);clear hG hK x hw kt dn kv su;go_wp2_with fail
 go_loopw [7,22] (λnm i wr=>∃(em num:Nat)(Q:DK)(us:List ar),i=.int .i64 em/\nm=.int .u64 num/\CM w1 s.aH sb base bf (a0++b0++c0++d0) ps T s.next B0 wr Q us em num) (λ_ i _=>T.length-(intOf i).toNat)
 case atStart=>exact⟨0,s.next,bf,[],rfl,rfl,Y om⟩
 case round=>
  obtain⟨em,num,Q,us,rfl,rfl,f⟩:=hrel;have tm:=(Y c).le;have te:=(Y c).EX;have eb:∀k,w.heap.size<=k->¬Wr s.aH bf ps k:=by
   rintro k b(ac|⟨bv,O,ac|ac⟩)
   ·have:=(Y c).aS k ac;omega
   ·have:=(((Y c).news bv O).1.lt k (.inl ac)).2;omega
   ·have:=(((Y c).news bv O).1.lt k (.inr (.inr ac))).2;omega
  have mA:¬Wr s.aH bf ps sb:=by
   rintro(ac|⟨bv,O,ac|ac⟩)
   ·exact hH ac
   ·have:=(((Y c).news bv O).1.lt sb (.inl ac)).1;omega
   ·have:=(((Y c).news bv O).1.lt sb (.inr (.inr ac))).1;omega
  have tp:=Y oS;have bb:=(f.ay.block sb (ak (Y ce)) mA).trans (Y ce);by_cases dT:em<T.length
  ·have a:=f.ay.own (Y ip) (λk b=>eb k (by have:=((Y ip).lt k b).1;omega));obtain⟨q,y,r⟩:∃q,xT=some ⟨q,0,none⟩/\wr.cell? ⟨q,em,none⟩=some T[em].ptr:=by
    rcases a.2 with⟨h2,h0⟩|⟨z,e,pb,h2,_⟩
    ·omega
    ·cases h2;refine⟨z,rfl,?_⟩;have:=lH a em T[em].ptr (by rw[cP,aA dT];rfl);rwa[ct,cw]at this
   subst y;unfold ar.ptr at r;have e1:(em:Int)<(T.length:Int):=by omega
   rcases(Y ad).xt T[em] (au dT)with h0|⟨bv,O,d⟩
   ·obtain⟨hi,G,bJ,hm,_⟩:=(f.CN T[em] h0).mem;have e:=wH wr T[em].tb _ _ _ _ _ hi G bJ _ _ hm;have HM:=Z (f.skip (Y ad) dT h0);clear f a bb hm h0 eb;generalize T[em].tb=C at*;go_wp2_with fail
    refine e.mono ?_;rintro dk n⟨rfl,t⟩;subst n;clear e;go_wp2;go_roundw;case rel=>exact⟨em+1,num,Q,_,by go_num,rfl,Y HM⟩
    case measure=>simp[intOf];omega
   ·have u:=f.rest bv O (by rw[d,<-iJ dT];exact cK);have e:=xX wr bv.t.tb _ _ _ _ _ _ _ _ _ u.mem;rw[d]at e;have o:=f.write (Y ad) dT O d;have mo:num+1<9223372036854775807:=by have:=f.mR.2;have:=(Y ad).nx;have:=(Y ad).small;omega
    have c2:wr.cell? ⟨sb,2,none⟩=some (.pointer (some ⟨s.aH,0,none⟩)):=bX.cell bb rfl;clear f a bb u eb d O;generalize T[em].tb=C at*;go_wp2_with fail
    refine e.mono ?_;rintro dk n⟨rfl,t⟩;subst n;clear e;go_wp2_with fail
    refine o.mono ?_;rintro dk n⟨rfl,B,A,m⟩;have p:=Z m;clear m o;go_wp2;go_roundw;case rel=>exact⟨em+1,num+1,B,A,by go_num,by go_num,Y p⟩
    case measure=>simp[intOf];omega
  ·have qv:em=T.length:=by have:=f.le;omega
   rw[qv]at f;have ln:us.map (λbd=>(bd.tb,bd.ks,bd.cs))=(ca++cb++ac++cc).map (λbd=>(bd.tb,bd.ks,bd.cs)):=by rw[f.same,bD,Y kc]
   obtain⟨D,F,N,R,C,pc,pf,pj,pp⟩:=Oy ln;obtain⟨hk,hl,pd,pe⟩:=jn pc;obtain⟨hn,hp,pg,pi⟩:=jn pf;obtain⟨hq,hr,pk,pn⟩:=jn pj;obtain⟨hs,ht,pr,pv⟩:=jn pp;have mn:∀v,mS w s.aH sb base bf v->∀k,v.ownBlock=some k->¬Wr s.aH bf ps k:=by
    rintro v hv k b(q|⟨bv,O,q|q⟩)
    ·exact(hv k b).2.1 q
    ·have u:=((Y c).news bv O).1;rcases(hv k b).2.2.2 with z|⟨ax,mI,z⟩
     ·have:=(u.lt k (.inl q)).1;omega
     ·exact fj z u.mem.box (by decide) q
    ·have u:=((Y c).news bv O).1;rcases(hv k b).2.2.2 with z|⟨ax,mI,z⟩
     ·have:=(u.lt k (.inr (.inr q))).1;omega
     ·obtain⟨pb,qs⟩:=dS u.data (k:=bv.x) rfl;exact fj z qs (by decide) q
   have bk:I (Wr s.aH bf ps) w wr:=((Y gc).mono (T:=Wr s.aH bf ps) (λ_ q=>q.elim)).trans f.ay (λ_ q=>.inl q);have r:∀v(ts a:List ar),mS w s.aH sb base bf v->Row w 1 v ts.length (ts.map ar.ptr)->a.map ar.ptr=ts.map ar.ptr->a.length=ts.length->Row wr 1 v a.length (a.map ar.ptr):=λv ts a hv mv e1 e2=>by
    rw[e1,e2];exact bk.row mv (λk b=>⟨mn v hv k b,(hv k b).1⟩)
   have lg:∀bx∈us,CB wr s.aH bx:=λbx hu=>by
    have ax:∀{x:Nat->Prop},nR wr s.aH (vw Q.files) x bx->CB wr s.aH bx:=λho=>by
     obtain⟨hi,G,bJ,hm,_⟩:=ho.mem;refine⟨hi,G,bJ,?_⟩;rw[<-ho.ks]at hm;exact hm
    rcases f.Hy bx hu with q|⟨bv,_,_,q,_⟩
    ·exact ax (f.CN bx q)
    ·exact ax q
   have hz:∀bl,I (λ_=>False) wr bl->∀bx∈us,CB bl s.aH bx:=λbl hJ bx hu=>by
    obtain⟨hi,G,bJ,hm⟩:=lg bx hu;exact⟨hi,G,bJ,hm.dh (hJ.block _ (ak hm.box) id) (hJ.block _ hm.lt.2 id)⟩
   have ea:∀v(ts:List ar),(∀bd∈ts,bd∈us)->ts.length<=1000000->(∀k,v.ownBlock=some k->k<wr.heap.size)->Row wr 1 v ts.length (ts.map ar.ptr)->∀bl,I (λ_=>False) wr bl->Calls prog 159 #[v] bl λdk w'=>∃a,dk=.returned a/\w'.ownsRow bl.heap.size 233 4 a ts.length (cf ts)/\Below bl.heap.size bl w':=λv ts ax c b mv bl hJ=>by
    refine Gc bl s.aH v ts ⟨hJ.row mv (λk dk=>⟨id,b k dk⟩),λk dk=>ah (b k dk) hJ.size,λbd bt=>(hz bl hJ bd (ax bd bt)).GR,by omega⟩ (λbd bt=>hz bl hJ bd (ax bd bt)) (by omega)
   have va:=bk.size;have gt:=ea _ D (λbd bt=>by rw[C];simp[bt]) (by omega) (λk b=>by have:=((Y c).b0 k b).1;omega) (r _ ca D (Y c).b0 (Y c).r0 hk hl);have gv:=ea _ F (λbd bt=>by rw[C];simp[bt]) (by omega) (λk b=>by have:=((Y c).b1 k b).1;omega) (r _ cb F (Y c).b1 (Y c).r1 hn hp);have gA:=ea _ N (λbd bt=>by rw[C];simp[bt]) (by omega) (λk b=>by have:=((Y c).b2 k b).1;omega) (r _ ac N (Y c).b2 (Y c).r2 hq hr);have ha:=ea _ R (λbd bt=>by rw[C];simp[bt]) (by omega) (λk b=>by have:=((Y c).b3 k b).1;omega) (r _ cc R (Y c).b3 (Y c).r3 hs ht);have it:=Z (r _ ca D (Y c).b0 (Y c).r0 hk hl);have iu:=Z (r _ cb F (Y c).b1 (Y c).r1 hn hp);have iv:=Z (r _ ac N (Y c).b2 (Y c).r2 hq hr);have ka:=Z (r _ cc R (Y c).b3 (Y c).r3 hs ht);have L:=(f.ay.block w.heap.size (ak (Y cd)) (eb _ (ai _))).trans (Y cd);have bn:wr.cell? ⟨w.heap.size,0,none⟩=some (.slice x0 ca.length g):=by rw[aj L];rfl
   have bo:wr.cell? ⟨w.heap.size,1,none⟩=some (.slice x1 cb.length h):=by rw[aj L];rfl
   have bp:wr.cell? ⟨w.heap.size,2,none⟩=some (.slice x2 ac.length j):=by rw[aj L];rfl
   have bq:wr.cell? ⟨w.heap.size,3,none⟩=some (.slice x3 cc.length l):=by rw[aj L];rfl
   have tb:=ak L;have mo:num+1<9223372036854775807:=by have:=f.mR.2;have:=(Y ad).nx;have:=(Y ad).small;omega
   have ry:IntKind.u64.wrap ((num:Int)+1)=(num:Int)+1:=by rw[eZ];omega
   have e1:¬(em:Int)<(T.length:Int):=by omega
   have HM:=Z f;have hX:=Z gt;have hY:=Z gv;have ih:=Z gA;have il:=Z ha;have fL:=Z bb;have gk:=Z bk;have dc:=Z C;have hR:=Z L;have HEq:=Z (bj pc (bj pf (bj pj pp)));clear f ea gt gv gA ha bb bk C L pc pf pj pp hk hl pd pe hn hp pg pi hq hr pk pn hs ht pr pv r lg hz mn eb ln mA;go_wp2_with fail
   obtain⟨a,mC⟩:∃a,wr.heap.size=a:=⟨_,rfl⟩;obtain⟨W0,lo⟩:∃W0,wr.alloc (.cells #[.int .u64 ((num:Int)+1),.int .u64 num,.int .u64 bs,.slice none 0 0,.slice none 0 0,.slice none 0 0,.slice none 0 0] 155)=W0:=⟨_,rfl⟩;have hb:W0.heap[a]?=some (.cells #[.int .u64 ((num:Int)+1),.int .u64 num,.int .u64 bs,.slice none 0 0,.slice none 0 0,.slice none 0 0,.slice none 0 0] 155 (0,0)):=by rw[<-lo];exact az _ mC.symm
   have hc:I (λ_=>False) wr W0:=by rw[<-lo];exact(I.refl _ _).alloc _
   have U:=Z hb;have ge:=Z hc;clear hb hc;have sv:∀bl,(Instr.index 107 (.agg #[.slice x0 ca.length g,.slice x1 cb.length h,.slice x2 ac.length j,.slice x3 cc.length l]) (.int .i64 0)).run prog bl=.ok (.slice x0 ca.length g) bl:=λ_=>by kernel_rfl
   have sz:∀bl,(Instr.index 107 (.agg #[.slice x0 ca.length g,.slice x1 cb.length h,.slice x2 ac.length j,.slice x3 cc.length l]) (.int .i64 1)).run prog bl=.ok (.slice x1 cb.length h) bl:=λ_=>by kernel_rfl
   have sT:∀bl,(Instr.index 107 (.agg #[.slice x0 ca.length g,.slice x1 cb.length h,.slice x2 ac.length j,.slice x3 cc.length l]) (.int .i64 2)).run prog bl=.ok (.slice x2 ac.length j) bl:=λ_=>by kernel_rfl
   have ta:∀bl,(Instr.index 107 (.agg #[.slice x0 ca.length g,.slice x1 cb.length h,.slice x2 ac.length j,.slice x3 cc.length l]) (.int .i64 3)).run prog bl=.ok (.slice x3 cc.length l) bl:=λ_=>by kernel_rfl
   refine jZ 5 ?_;rw[fP];go_wp2_with fail
   refine((Y hX) W0 (Y ge)).mono ?_;rintro dk n⟨m0,rfl,fl,K⟩;obtain⟨y0,z0,rn⟩:=aC fl;subst rn;have p:I (λ_=>False) W0 n:=I.aR K;have e:=(p.block a (ak (Y U)) id).trans (Y U);have g0:n.cell? ⟨a,3,none⟩=some (.slice none 0 0):=by rw[aj e];rfl
   have f0:n.frozen? ⟨a,3,none⟩=false:=cG e;have o:(n.setCell ⟨a,3,none⟩ (.slice y0 D.length z0)).heap[a]?=some (.cells #[.int .u64 ((num:Int)+1),.int .u64 num,.int .u64 bs,(.slice y0 D.length z0),.slice none 0 0,.slice none 0 0,.slice none 0 0] 155 (0,0)):=(aL e).trans rfl;have d:I (λk=>k=a) W0 (n.setCell ⟨a,3,none⟩ (.slice y0 D.length z0)):=(p.mono (T:=λk=>k=a) (λ_ q=>q.elim)).setCell _ _ _ (.inl rfl);obtain⟨W1,lp⟩:∃W1,n.setCell ⟨a,3,none⟩ (.slice y0 D.length z0)=W1:=⟨_,rfl⟩;rw[lp]at o d;have an:=Z o;have gf:=Z ((Y ge).trans d (λk b=>.inr (by omega)));have cl:=Z (show W1.ownsRow W0.heap.size 233 4 (.slice y0 D.length z0) D.length (cf D)by rw[<-lp];exact fl.kept (co _ _ _ _) (.inr (λq=>by have:=(fl.lt _ q).1;have:=ak (Y U);omega)));clear o d p e K fl;go_wp2_with fail
   rw[fP];go_wp2_with fail
   refine((Y hY) W1 (Y gf)).mono ?_;rintro dk n⟨m1,rfl,fn,K⟩;obtain⟨y1,z1,ro⟩:=aC fn;subst ro;have p:I (λ_=>False) W1 n:=I.aR K;have e:=(p.block a (ak (Y an)) id).trans (Y an);have g1:n.cell? ⟨a,4,none⟩=some (.slice none 0 0):=by rw[aj e];rfl
   have f1:n.frozen? ⟨a,4,none⟩=false:=cG e;have o:(n.setCell ⟨a,4,none⟩ (.slice y1 F.length z1)).heap[a]?=some (.cells #[.int .u64 ((num:Int)+1),.int .u64 num,.int .u64 bs,(.slice y0 D.length z0),(.slice y1 F.length z1),.slice none 0 0,.slice none 0 0] 155 (0,0)):=(aL e).trans rfl;have d:I (λk=>k=a) W1 (n.setCell ⟨a,4,none⟩ (.slice y1 F.length z1)):=(p.mono (T:=λk=>k=a) (λ_ q=>q.elim)).setCell _ _ _ (.inl rfl);obtain⟨W2,lr⟩:∃W2,n.setCell ⟨a,4,none⟩ (.slice y1 F.length z1)=W2:=⟨_,rfl⟩;rw[lr]at o d;have bg:=Z o;have gi:=Z ((Y gf).trans d (λk b=>.inr (by omega)));have cs:=Z (show W2.ownsRow W1.heap.size 233 4 (.slice y1 F.length z1) F.length (cf F)by rw[<-lr];exact fn.kept (co _ _ _ _) (.inr (λq=>by have:=(fn.lt _ q).1;have:=ak (Y an);omega)));have cm:=Z (d.own (Y cl) (λk b q=>by have:=((Y cl).lt k b).1;have:=ak (Y U);omega));clear o d p e K fn;go_wp2_with fail
   rw[fP];go_wp2_with fail
   refine((Y ih) W2 (Y gi)).mono ?_;rintro dk n⟨m2,rfl,fr,K⟩;obtain⟨y2,z2,rs⟩:=aC fr;subst rs;have p:I (λ_=>False) W2 n:=I.aR K;have e:=(p.block a (ak (Y bg)) id).trans (Y bg);have g2:n.cell? ⟨a,5,none⟩=some (.slice none 0 0):=by rw[aj e];rfl
   have f2:n.frozen? ⟨a,5,none⟩=false:=cG e;have o:(n.setCell ⟨a,5,none⟩ (.slice y2 N.length z2)).heap[a]?=some (.cells #[.int .u64 ((num:Int)+1),.int .u64 num,.int .u64 bs,(.slice y0 D.length z0),(.slice y1 F.length z1),(.slice y2 N.length z2),.slice none 0 0] 155 (0,0)):=(aL e).trans rfl;have d:I (λk=>k=a) W2 (n.setCell ⟨a,5,none⟩ (.slice y2 N.length z2)):=(p.mono (T:=λk=>k=a) (λ_ q=>q.elim)).setCell _ _ _ (.inl rfl);obtain⟨W3,ls⟩:∃W3,n.setCell ⟨a,5,none⟩ (.slice y2 N.length z2)=W3:=⟨_,rfl⟩;rw[ls]at o d;have cT:=Z o;have gj:=Z ((Y gi).trans d (λk b=>.inr (by omega)));have cB:=Z (show W3.ownsRow W2.heap.size 233 4 (.slice y2 N.length z2) N.length (cf N)by rw[<-ls];exact fr.kept (co _ _ _ _) (.inr (λq=>by have:=(fr.lt _ q).1;have:=ak (Y bg);omega)));have cn:=Z (d.own (Y cm) (λk b q=>by have:=((Y cm).lt k b).1;have:=ak (Y U);omega));have cv:=Z (d.own (Y cs) (λk b q=>by have:=((Y cs).lt k b).1;have:=ak (Y an);omega));clear o d p e K fr;go_wp2_with fail
   rw[fP];go_wp2_with fail
   refine((Y il) W3 (Y gj)).mono ?_;rintro dk n⟨m3,rfl,fs,K⟩;obtain⟨y3,z3,rt⟩:=aC fs;subst rt;have p:I (λ_=>False) W3 n:=I.aR K;have e:=(p.block a (ak (Y cT)) id).trans (Y cT);have g3:n.cell? ⟨a,6,none⟩=some (.slice none 0 0):=by rw[aj e];rfl
   have f3:n.frozen? ⟨a,6,none⟩=false:=cG e;have o:(n.setCell ⟨a,6,none⟩ (.slice y3 R.length z3)).heap[a]?=some (.cells #[.int .u64 ((num:Int)+1),.int .u64 num,.int .u64 bs,(.slice y0 D.length z0),(.slice y1 F.length z1),(.slice y2 N.length z2),(.slice y3 R.length z3)] 155 (0,0)):=(aL e).trans rfl;have d:I (λk=>k=a) W3 (n.setCell ⟨a,6,none⟩ (.slice y3 R.length z3)):=(p.mono (T:=λk=>k=a) (λ_ q=>q.elim)).setCell _ _ _ (.inl rfl);obtain⟨W4,lt⟩:∃W4,n.setCell ⟨a,6,none⟩ (.slice y3 R.length z3)=W4:=⟨_,rfl⟩;rw[lt]at o d;have db:=Z o;have V:=Z ((Y gj).trans d (λk b=>.inr (by omega)));have cM:=Z (show W4.ownsRow W3.heap.size 233 4 (.slice y3 R.length z3) R.length (cf R)by rw[<-lt];exact fs.kept (co _ _ _ _) (.inr (λq=>by have:=(fs.lt _ q).1;have:=ak (Y cT);omega)));have cp:=Z (d.own (Y cn) (λk b q=>by have:=((Y cn).lt k b).1;have:=ak (Y U);omega));have cx:=Z (d.own (Y cv) (λk b q=>by have:=((Y cv).lt k b).1;have:=ak (Y an);omega));have cE:=Z (d.own (Y cB) (λk b q=>by have:=((Y cB).lt k b).1;have:=ak (Y bg);omega));clear o d p e K fs;go_wp2_with fail
   rw[fP];go_wp2_with fail
   have ds:bX W4 sb s k:=((Y V).block sb (ak (Y fL)) id).trans (Y fL);have ll:∀bT:J,bT.heap=W4.heap->(λ(bT:J)=>bT.cell? ⟨sb,2,none⟩=some (.pointer (some ⟨s.aH,0,none⟩))/\bT.cell? ⟨a,0,none⟩=some (.int .u64 ((num:Int)+1))/\bT.cell? ⟨a,1,none⟩=some (.int .u64 num)/\bT.cell? ⟨a,2,none⟩=some (.int .u64 bs)/\bT.cell? ⟨a,3,none⟩=some (.slice y0 D.length z0)/\bT.cell? ⟨a,4,none⟩=some (.slice y1 F.length z1)/\bT.cell? ⟨a,5,none⟩=some (.slice y2 N.length z2)/\bT.cell? ⟨a,6,none⟩=some (.slice y3 R.length z3)) bT:=by
    intro bT ax;have h1:bT.heap[sb]?=W4.heap[sb]?:=by rw[ax]
    have h2:bT.heap[a]?=W4.heap[a]?:=by rw[ax]
    have mI:bX bT sb s k:=h1.trans ds;have qs:=h2.trans (Y db);refine⟨mI.cell rfl,?_,?_,?_,?_,?_,?_,?_⟩<;>(rw[aj qs];rfl)
   have gs:=ll W4.drew rfl;have ch:=Z ds;clear ll ds;have mE:Calls prog 160 #[.pointer (some ⟨s.aH,0,none⟩),.agg #[.int .u64 ((num:Int)+1),.int .u64 num,.int .u64 bs,.slice y0 D.length z0,.slice y1 F.length z1,.slice y2 N.length z2,.slice y3 R.length z3]] W4.drew λdk w'=>dk=.returned .nilIface/\∃a,nJ W4.drew w' s.aH Q a/\vw a.files=ph (vw Q.files) (eS,fJ ((num:Int)+1) num bs [D,F,N,R])/\a.cY=[]:=by
    have f:=Y HM;have C:=Y dc;have mI:I (λ_=>False) wr W4.drew:=(Y V).of_heap rfl;have u:∀bx∈us,bx.kP:=λbx hu=>by
     have hO:∀{x:Nat->Prop},nR wr s.aH (vw Q.files) x bx->bx.kP:=λho=>by
      refine⟨ho.num,by have:=ho.small;omega,?_⟩;have h1:=iV (λk b=>(ho.idx.can k b).fits);have h2:=ho.idx.len;rw[ho.ks];unfold dz;rw[ag,bw];omega
     rcases f.Hy bx hu with q|⟨bv,_,_,q,_⟩
     ·exact hO (f.CN bx q)
     ·exact hO q
    have ra:D.length+F.length+N.length+R.length<=1000000:=by
     have:=f.len;rw[C]at this;simp only[ag]at this;omega
    have rc:cR (vw Q.files) qI=none:=by
     obtain⟨ss,hD,qs⟩:=f.files;rw[hD,gR];cases q:cR (vw bf.files) qI with
     |some hj=>exact absurd rfl (ed _ _ q)
     |none=>
      rw[ik];cases q2:cR ss qI with
      |none=>rfl
      |some hj=>
       obtain⟨bx,_,dk,_⟩:=qs _ (tg q2);simp only[eY]at dk;exact absurd dk.1.symm (ys _)
    have ax:eW (vw Q.files)+21000000<=1099511627776:=by
     have h1:=f.mG;have h2:=(Y ad).room;have h3:T.length*200000<=1000000*200000:=ke _ hC;omega
    refine KJ s.aH Q ((num:Int)+1) num bs y0 y1 y2 y3 z0 z1 z2 z3 D F N R W4.drew (λk b=>mI.cell (f.steps k b) id f.steps.lt) (cW (Y cp)) (cW (Y cx)) (cW (Y cE)) (cW (Y cM)) (λk b=>((Y cp).lt k b).2) (λk b=>((Y cx).lt k b).2) (λk b=>((Y cE).lt k b).2) (λk b=>((Y cM).lt k b).2) (λbd bt=>u bd (by rw[C];simp[bt])) (λbd bt=>u bd (by rw[C];simp[bt])) (λbd bt=>u bd (by rw[C];simp[bt])) (λbd bt=>u bd (by rw[C];simp[bt])) (by omega) (by omega) (by omega) ra (f.aH.ay mI (λ_ _=>id)) rc (by have:=f.cY;have:=(Y ad).cY;omega) ax
   have oy:=Z mE;clear mE;rename_i QQ KK lc;refine bM (λ(bT:J)=>bT.cell? ⟨sb,2,none⟩=some (.pointer (some ⟨s.aH,0,none⟩))/\bT.cell? ⟨a,0,none⟩=some (.int .u64 ((num:Int)+1))/\bT.cell? ⟨a,1,none⟩=some (.int .u64 num)/\bT.cell? ⟨a,2,none⟩=some (.int .u64 bs)/\bT.cell? ⟨a,3,none⟩=some (.slice y0 D.length z0)/\bT.cell? ⟨a,4,none⟩=some (.slice y1 F.length z1)/\bT.cell? ⟨a,5,none⟩=some (.slice y2 N.length z2)/\bT.cell? ⟨a,6,none⟩=some (.slice y3 R.length z3)) 6 (by kernel_rfl) ?_;refine cz 0 ?_;iterate 5 (refine cy (v:=?_) gs rfl (by kernel_rfl) (λ_ _ _ bt=>bt) (Or.inl ⟨by rfl,?_⟩) ?_;rotate_left;(focus(rintro bT⟨s2,q0,q1,q2,q3,q4,q5,q6⟩;go_simp;try with_reducible rfl));simp only[Act.put,Nat.reduceAdd,ab,ae,af])
   refine dG ?_;refine aI (i:=5) rfl rfl (by kernel_rfl) ?_;intro K5 la;go_simp;refine(Y oy).mono ?_;rintro dk w5⟨rfl,hh,ex,mK,mg⟩;have mb:∀k,Q.aS s.aH k->k<a:=λk b=>by have:=(Y HM).aH.lt k b;omega
   have hI:¬Q.aS s.aH sb:=λq=>by
    rcases(Y HM).aS sb q with z|z
    ·exact hH z
    ·have:=ak (Y ce);omega
   have hA:bX w5 sb s k:=(ex.ay.block sb (ak (Y ch)) hI).trans (Y ch);have t:w5.heap[a]?=_:=(ex.ay.block a (ak (Y db)) (λq=>by have:=mb _ q;omega)).trans (Y db);have en:=Z hA;have gb:=Z t;have al:=Z ex;have hg:=Z mK;have hW:=Z mg;have kb:=Z hI;refine la _ _ (λ_=>⟨hA.cell rfl,(by rw[aj t];rfl),(by rw[aj t];rfl),(by rw[aj t];rfl),(by rw[aj t];rfl),(by rw[aj t];rfl),(by rw[aj t];rfl),(by rw[aj t];rfl)⟩) ?_;clear la ex mK mg hA t mb hI;try simp only[Act.put,ab,ae,af]
   refine aI (i:=6) rfl rfl (by kernel_rfl) ?_;intro K6 lb;go_simp;refine lb _ _ (λq=>(q rfl).elim) ?_;refine cr (by kernel_rfl) ?_ _;show KK _ _;refine lc _ _ ?_;clear lc lb gs;have f:=Y HM;have nb:w.heap.size<w1.heap.size:=ak (Y cd);have ti:=f.ay.size;have X:I (Q.aS s.aH) wr w5:=((Y V).mono (T:=Q.aS s.aH) (λ_ q=>q.elim)).trans ((bS (Q.aS s.aH) W4).trans (Y al).ay (λ_ q=>.inl q)) (λ_ q=>.inl q);have ec:∀k,k<w1.heap.size->¬bf.aS s.aH k->¬Q.aS s.aH k:=λk h1 h2 q=>(f.aS k q).elim h2 (λz=>by omega);have dx:∀k,k<w1.heap.size->¬bf.aS s.aH k->w5.heap[k]?=wr.heap[k]?:=λk h1 h2=>X.block k (by omega) (ec k h1 h2);have qr:=(Y c).le;have ms:∀bv∈ps,∀k,bv.has k->k<w1.heap.size/\¬bf.aS s.aH k:=λbv O k b=>by
    have h1:=((Y c).news bv O).1.lt k b;exact⟨by omega,λq=>by have:=(Y c).aS k q;omega⟩
   have mp:∀k,CE s.aH sb base bf k->k<w1.heap.size/\¬bf.aS s.aH k:=λk b=>⟨by have:=b.1;omega,b.2.1⟩;have hy:∀{x:Nat->Prop}{bx:ar},nR wr s.aH (vw Q.files) x bx->(∀k,x k->k<w1.heap.size/\¬bf.aS s.aH k)->Kd w5 bx:=λho ax=>by
    obtain⟨hi,G,bJ,hm,mI⟩:=(ho.Jl (λk b=>dx k (ax k b).1 (ax k b).2)).mem;exact⟨ho.num,_,_,_,_,hi,G,bJ,_,hm⟩
   have hx:∀bd∈a0++b0++c0++d0,Kd w5 bd:=λbd h0=>hy (f.CN bd h0) mp;have le:∀bx∈D++F++N++R,Kd w5 bx:=λbx hu=>by
    rw[<-Y dc]at hu;rcases f.Hy bx hu with q|⟨bv,O,_,q,_⟩
    ·exact hx bx q
    ·exact hy q (ms bv O)
   have gr:xQ w5 sb 10 [(s.l0,a0),(s.l1,b0),(s.l2,c0),(s.l3,d0)]:=by
    refine(Y ck).ay (S:=λk=>Wr s.aH bf ps k\/Q.aS s.aH k) (((Y gk).mono (T:=λk=>Wr s.aH bf ps k\/Q.aS s.aH k) (λ_ q=>.inl (.inl q))).trans X (λ_ q=>.inl (.inr q))) ?_ ?_
    ·rintro(q|q)
     ·rcases q with z|⟨bv,O,z|z⟩
      ·exact hH z
      ·have:=(((Y c).news bv O).1.lt sb (.inl z)).1;omega
      ·have:=(((Y c).news bv O).1.lt sb (.inr (.inr z))).1;omega
     ·exact Y kb q
    ·intro i mI P br q;have ax:CE s.aH sb base bf P:=by
      have:i=0\/i=1\/i=2\/i=3:=by simp at mI;omega
      rcases this with rfl|rfl|rfl|rfl
      ·exact(Y eo) _ (.inl rfl) P br
      ·exact(Y eo) _ (.inr (.inl rfl)) P br
      ·exact(Y eo) _ (.inr (.inr (.inl rfl))) P br
      ·exact(Y eo) _ (.inr (.inr (.inr rfl))) P br
     rcases q with z|z
     ·rcases z with z|⟨bv,O,z|z⟩
      ·exact ax.2.1 z
      ·have:=(((Y c).news bv O).1.lt P (.inl z)).1;have:=ax.1;omega
      ·have:=(((Y c).news bv O).1.lt P (.inr (.inr z))).1;have:=ax.1;omega
     ·exact ec P (by have:=ax.1;omega) ax.2.1 z
   have H:∀v(ts:List ar),mS w s.aH sb base bf v->Row wr 1 v ts.length (ts.map ar.ptr)->Row w5 1 v ts.length (ts.map ar.ptr)/\∀k,v.ownBlock=some k->k<w5.heap.size:=λv ts hv mv=>
    ⟨X.row mv (λk b=>⟨ec k (by have:=(hv k b).1;omega) (hv k b).2.1,by have:=(hv k b).1;omega⟩),λk b=>by have:=(hv k b).1;have:=X.size;omega⟩
   have q0:=H _ D (Y c).b0 (Y it);have q1:=H _ F (Y c).b1 (Y iu);have q2:=H _ N (Y c).b2 (Y iv);have q3:=H _ R (Y c).b3 (Y ka);have tc:(D++F++N++R).length<=1000000:=by rw[<-Y dc,f.len];exact hC
   have eg:Pow w5:=f.pow.dh (dx _ (by have:=(Y c).jB.1;omega) (Y c).jB.2.1);have ef:=BN w5 sb s k a0 b0 c0 d0 D F N R _ _ _ _ (Y en) gr q0.1 q1.1 q2.1 q3.1 q0.2 q1.2 q2.2 q3.2 hx le eg rb (by omega) (by omega);have W:=(dx w.heap.size nb (λq=>by have:=(Y c).aS _ q;omega)).trans (Y hR);have bn:w5.cell? ⟨w.heap.size,0,none⟩=some (.slice x0 ca.length g):=by rw[aj W];rfl
   have bo:w5.cell? ⟨w.heap.size,1,none⟩=some (.slice x1 cb.length h):=by rw[aj W];rfl
   have bp:w5.cell? ⟨w.heap.size,2,none⟩=some (.slice x2 ac.length j):=by rw[aj W];rfl
   have bq:w5.cell? ⟨w.heap.size,3,none⟩=some (.slice x3 cc.length l):=by rw[aj W];rfl
   rw[<-Y dc]at ef;have op:=Z dx;have ao:=Z X;have fx:=Z W;have ox:=Z ec;clear f ec dx hy hx le gr H q0 q1 q2 q3 eg W X ms mp;go_wp2_with fail
   refine ef.mono ?_;rintro dk y⟨v6,rfl,fu,el⟩;obtain⟨ob,ee⟩:∃ob,lJ s (a0++b0++c0++d0) us=ob:=⟨_,rfl⟩;rw[ee]at fu;obtain⟨x6,c6,rv⟩:=aC fu;subst rv;have m:bX y sb s k:=(el.block sb (ak (Y en)) id).trans (Y en);have ej:y.heap[a]?=_:=(el.block a (ak (Y gb)) id).trans (Y gb);have ba:y.heap[w.heap.size]?=_:=(el.block w.heap.size (ak (Y fx)) id).trans (Y fx);obtain⟨nq,no,fb⟩:=bA ((Y ck).row 0 (by simp));obtain⟨nv,ns,fd⟩:=bA ((Y ck).row 1 (by simp));obtain⟨nK,nx,fe⟩:=bA ((Y ck).row 2 (by simp));obtain⟨nS,nO,fk⟩:=bA ((Y ck).row 3 (by simp));simp only[ap,am]at fb fd fe fk;have hS:=Z fb;have hT:=Z fd;have hU:=Z fe;have hV:=Z fk;have k7:y.cell? ⟨sb,7,none⟩=some (.slice ty tx tt):=by rw[<-Y ov];exact m.cell rfl
   have k8:y.cell? ⟨sb,8,none⟩=some (.int .i64 s.fF):=m.cell rfl;have k9:y.cell? ⟨sb,9,none⟩=some (.int .u64 s.aO):=m.cell rfl;have nc:y.cell? ⟨sb,10,none⟩=some (.slice nq a0.length no):=by rw[<-fb];exact m.cell rfl
   have nd:y.cell? ⟨sb,11,none⟩=some (.slice nv b0.length ns):=by rw[<-fd];exact m.cell rfl
   have ne:y.cell? ⟨sb,12,none⟩=some (.slice nK c0.length nx):=by rw[<-fe];exact m.cell rfl
   have nf:y.cell? ⟨sb,13,none⟩=some (.slice nS d0.length nO):=by rw[<-fk];exact m.cell rfl
   have nl:y.cell? ⟨sb,14,none⟩=some (.int .u64 s.next):=m.cell rfl;have rT:y.cell? ⟨sb,15,none⟩=some (.int .u64 s.log):=m.cell rfl;have sc:y.cell? ⟨sb,16,none⟩=some (.bool s.bQ):=m.cell rfl;have sl:y.cell? ⟨sb,17,none⟩=some (.bool s.rq):=m.cell rfl;have sn:y.cell? ⟨sb,18,none⟩=some (.bool s.gT):=m.cell rfl;have sp:y.cell? ⟨sb,19,none⟩=some (.bool s.ga):=m.cell rfl;have fz:∀i,y.frozen? ⟨sb,i,none⟩=false:=λi=>m.free;have f7:=fz 7;have f8:=fz 8;have f9:=fz 9;have kd:=fz 10;have kf:=fz 11;have kk:=fz 12;have kl:=fz 13;have kq:=fz 14;have pw:=fz 15;have px:=fz 16;have qb:=fz 17;have qk:=fz 18;have qq:=fz 19;have bn:y.cell? ⟨w.heap.size,0,none⟩=some (.slice x0 ca.length g):=by rw[aj ba];rfl
   have bo:y.cell? ⟨w.heap.size,1,none⟩=some (.slice x1 cb.length h):=by rw[aj ba];rfl
   have bp:y.cell? ⟨w.heap.size,2,none⟩=some (.slice x2 ac.length j):=by rw[aj ba];rfl
   have bq:y.cell? ⟨w.heap.size,3,none⟩=some (.slice x3 cc.length l):=by rw[aj ba];rfl
   have t0:y.cell? ⟨a,0,none⟩=some (.int .u64 ((num:Int)+1)):=by rw[aj ej];rfl
   have t1:y.cell? ⟨a,1,none⟩=some (.int .u64 num):=by rw[aj ej];rfl
   have n1:w.heap.size≠sb:=by omega
   have n2:a≠sb:=by omega
   have n3:sb≠w.heap.size:=by omega
   have n4:sb≠a:=by omega
   have oi:=Z m;have eq:=Z fu;have oA:=Z el;have hd:=Z ee;clear m ej ba fu el fz fb fd fe fk ef ee;go_wp2_with fail
   rename_i tk oT gn;obtain⟨E,es⟩:∃E,((y.setCell ⟨sb,7,none⟩ (.slice none 0 0)).setCell ⟨sb,8,none⟩ (.int .i64 0)).setCell ⟨sb,9,none⟩ (.int .u64 bs)=E:=⟨_,rfl⟩;have A:bX E sb {s with memory:=.slice none 0 0,fF:=0,aO:=bs} k:=by rw[<-es];exact(aL (aL (aL (Y oi)))).trans rfl
   have bc:I (λk=>k=sb) y E:=by rw[<-es];exact(((I.refl (λk=>k=sb) y).setCell _ _ _ (.inl rfl)).setCell _ _ _ (.inl rfl)).setCell _ _ _ (.inl rfl)
   have bn:E.cell? ⟨w.heap.size,0,none⟩=some (.slice x0 ca.length g):=bc.cell bn n1 (my bn);have bo:E.cell? ⟨w.heap.size,1,none⟩=some (.slice x1 cb.length h):=bc.cell bo n1 (my bo);have bp:E.cell? ⟨w.heap.size,2,none⟩=some (.slice x2 ac.length j):=bc.cell bp n1 (my bp);have bq:E.cell? ⟨w.heap.size,3,none⟩=some (.slice x3 cc.length l):=bc.cell bq n1 (my bq);have t0:E.cell? ⟨a,0,none⟩=some (.int .u64 ((num:Int)+1)):=bc.cell t0 n2 (my t0);have t1:E.cell? ⟨a,1,none⟩=some (.int .u64 num):=bc.cell t1 n2 (my t1);have nc:E.cell? ⟨sb,10,none⟩=some (.slice nq a0.length no):=by rw[<-Y hS];exact A.cell rfl
   have nd:E.cell? ⟨sb,11,none⟩=some (.slice nv b0.length ns):=by rw[<-Y hT];exact A.cell rfl
   have ne:E.cell? ⟨sb,12,none⟩=some (.slice nK c0.length nx):=by rw[<-Y hU];exact A.cell rfl
   have nf:E.cell? ⟨sb,13,none⟩=some (.slice nS d0.length nO):=by rw[<-Y hV];exact A.cell rfl
   have nl:E.cell? ⟨sb,14,none⟩=some (.int .u64 s.next):=A.cell rfl;have kd:E.frozen? ⟨sb,10,none⟩=false:=A.free;have kf:E.frozen? ⟨sb,11,none⟩=false:=A.free;have kk:E.frozen? ⟨sb,12,none⟩=false:=A.free;have kl:E.frozen? ⟨sb,13,none⟩=false:=A.free;have kq:E.frozen? ⟨sb,14,none⟩=false:=A.free;have oj:=Z A;have he:=Z bc;rw[es];clear es A bc;apply Cn oT
   ·intro ax;go_region
    all_goals exact ax
   refine gn _ _ ?_;clear gn;obtain⟨W8,et⟩:∃W8,(((((E.setCell ⟨sb,10,none⟩ (.slice x0 ca.length g)).setCell ⟨sb,11,none⟩ (.slice x1 cb.length h)).setCell ⟨sb,12,none⟩ (.slice x2 ac.length j)).setCell ⟨sb,13,none⟩ (.slice x3 cc.length l)).setCell ⟨sb,14,none⟩ (.int .u64 ((num:Int)+1))).drew=W8:=⟨_,rfl⟩;have B:bX W8 sb {s with memory:=.slice none 0 0,fF:=0,aO:=bs,l0:=.slice x0 ca.length g,l1:=.slice x1 cb.length h,l2:=.slice x2 ac.length j,l3:=.slice x3 cc.length l,next:=num+1} k:=by
    rw[<-et];exact(aL (aL (aL (aL (aL (Y oj)))))).trans rfl
   have hM:I (λk=>k=sb) E W8:=by
    rw[<-et];exact((((((I.refl (λk=>k=sb) E).setCell _ _ _ (.inl rfl)).setCell _ _ _ (.inl rfl)).setCell _ _ _ (.inl rfl)).setCell _ _ _ (.inl rfl)).setCell _ _ _ (.inl rfl)).trans (bS (λ_=>False) _) (λ_ q=>q.elim)
   have t1:W8.cell? ⟨a,1,none⟩=some (.int .u64 num):=hM.cell t1 n2 (my t1);have rT:W8.cell? ⟨sb,15,none⟩=some (.int .u64 s.log):=B.cell rfl;have sc:W8.cell? ⟨sb,16,none⟩=some (.bool s.bQ):=B.cell rfl;have sl:W8.cell? ⟨sb,17,none⟩=some (.bool s.rq):=B.cell rfl;have sn:W8.cell? ⟨sb,18,none⟩=some (.bool s.gT):=B.cell rfl;have sp:W8.cell? ⟨sb,19,none⟩=some (.bool s.ga):=B.cell rfl;have pw:W8.frozen? ⟨sb,15,none⟩=false:=B.free;have px:W8.frozen? ⟨sb,16,none⟩=false:=B.free;have qb:W8.frozen? ⟨sb,17,none⟩=false:=B.free;have qk:W8.frozen? ⟨sb,18,none⟩=false:=B.free;have qq:W8.frozen? ⟨sb,19,none⟩=false:=B.free;have ol:=Z B;have hf:=Z hM;rw[et];clear et B hM nc nd ne nf nl k7 k8 k9 f7 f8 f9 kd kf kk kl kq bn bo bp bq t0;go_wp2_with fail
   obtain⟨W9,eu⟩:∃W9,((((W8.setCell ⟨sb,15,none⟩ (.int .u64 num)).setCell ⟨sb,16,none⟩ (.bool false)).setCell ⟨sb,17,none⟩ (.bool false)).setCell ⟨sb,18,none⟩ (.bool false)).setCell ⟨sb,19,none⟩ (.bool false)=W9:=⟨_,rfl⟩;have hB:bX W9 sb (s.settled (.slice x0 ca.length g) (.slice x1 cb.length h) (.slice x2 ac.length j) (.slice x3 cc.length l) bs num) k:=by
    rw[<-eu];exact(aL (aL (aL (aL (aL (Y ol)))))).trans rfl
   have fv:I (λk=>k=sb) W8 W9:=by
    rw[<-eu];exact(((((I.refl (λk=>k=sb) W8).setCell _ _ _ (.inl rfl)).setCell _ _ _ (.inl rfl)).setCell _ _ _ (.inl rfl)).setCell _ _ _ (.inl rfl)).setCell _ _ _ (.inl rfl)
   have ek:I (λk=>k=sb) w5 W9:=(((Y oA).mono (T:=λk=>k=sb) (λ_ q=>q.elim)).trans ((Y he).trans ((Y hf).trans fv (λ_ q=>.inl q)) (λ_ q=>.inl q)) (λ_ q=>.inl q));rw[eu];have ed:=Y hd;have ey:=(Y on) us;rw[ed]at ey;have ei:¬hh.aS s.aH sb:=λq=>by
    rcases(Y al).aS sb q with z|z
    ·exact Y kb z
    ·have:=ak (Y ch);simp at z;omega
   have kx:bR W9 s.aH hh:=(Y al).ok.ay ek (λk b q=>by rw[q]at b;exact ei b);have mx:=yM W9 sb (s.settled (.slice x0 ca.length g) (.slice x1 cb.length h) (.slice x2 ac.length j) (.slice x3 cc.length l) bs num) k hh (.slice x6 ob.length c6) ob hB kx ei (cW ((((Y he).trans ((Y hf).trans fv (λ_ q=>.inl q)) (λ_ q=>.inl q))).own (Y eq) (λk b q=>by have:=((Y eq).lt k b).1;have:=ak (Y en);omega))) (λem a=>⟨ah ((Y eq).lt em a).2 ((((Y he).trans ((Y hf).trans fv (λ_ q=>.inl q)) (λ_ q=>.inl q))).size),λq=>by have h1:=((Y eq).lt em a).1;have h2:=(Y al).ok.lt em q;omega⟩) ey.1 (λnm qs=>by
    obtain⟨mI,hj,ax⟩:=ey.2 nm qs;obtain⟨ss,hD,_⟩:=(Y HM).files;refine⟨hj,?_⟩;rw[Y hg,qU,dd (λq=>mI q.symm),hD,gR,ax];rfl) (by
    rw[Y hW];have:ob.length<=1+(a0++b0++c0++d0).length:=by
     rw[<-ed];unfold lJ;rw[ag,bW];have h1:(jY (a0++b0++c0++d0) us).length<=(a0++b0++c0++d0).length:=gY _ _;split<;>simp<;>simp at h1<;>omega
    simp only[cH];omega)
   have hP:=Z hB;have bh:=Z ek;clear hB fv ek kx ey ed eu;refine mx.mono ?_;rintro dk w'⟨rfl,K8,lx,na,mm⟩;have cj:=Z lx;have oL:=Z na;have os:=Z mm;clear lx na mm mx;go_wp2;go_ret;refine⟨rfl,w1,wr,Q,K8,us,D,F,N,R,num,Y gc,?_,Y dc,(Y HEq).1,(Y HEq).2.1,(Y HEq).2.2.1,(Y HEq).2.2.2,?_,(Y cj).ok,?_,?_,?_,?_,?_,?_⟩
   ·rw[Y kc];exact Y HM
   ·exact((Y cj).ay.block sb (ak (Y hP)) ei).trans (Y hP)
   ·rw[Y oL,Y hg,Y hd]
   ·rw[<-Y hg];exact(Y al).ok.nodup
   ·rw[Y os,Y hW,Y hd];simp
   ·intro P h1 h2 h3;have g1:w5.heap[P]?=wr.heap[P]?:=(Y op) P (by omega) h2;have g2:W9.heap[P]?=w5.heap[P]?:=(Y bh).block P (by have:=(Y ao).size;omega) h3;refine((Y cj).ay.block P (by have:=(Y ao).size;have:=(Y bh).size;omega) (λq=>?_)).trans (g2.trans g1);rcases(Y al).aS P q with z|z
    ·exact(Y ox) P (by omega) h2 z
    ·have:=(Y V).size;simp at z;omega
   ·have rM:=(Y ao).size;have rz:=(Y V).size;have ax:∀oc,Q.aS s.aH oc->(Wr s.aH bf ps oc\/oc=sb)\/w.heap.size<=oc:=λoc hO=>by
     rcases(Y HM).aS oc hO with z|z
     ·exact .inl (.inl (.inl z))
     ·exact .inr (by omega)
    refine((((Y gk).mono (T:=λk=>Wr s.aH bf ps k\/k=sb) (λ_ q=>.inl (.inl q))).trans (Y ao) ax).trans (Y bh) (λ_ q=>.inl (.inr q))).trans (Y cj).ay (λoc hO=>?_);rcases(Y al).aS oc hO with z|z
    ·exact ax oc z
    ·simp at z;exact .inr (by omega)
   ·intro P br;have rM:=(Y ao).size;have rz:=(Y V).size;have ax:=(Y bh).size;rcases(Y cj).aS P br with z|z
    ·rcases(Y al).aS P z with z|z
     ·rcases(Y HM).aS P z with z|z
      ·exact .inl z
      ·exact .inr (by omega)
     ·simp at z;exact .inr (by omega)
    ·exact .inr (by omega)
def KM{a b:List ar}(h:a.map (λt=>(t.tb,t.ks,t.cs))=b.map (λt=>(t.tb,t.ks,t.cs))){t:ar}(d:t∈a):∃u∈b,t.tb=u.tb/\t.ks=u.ks/\t.cs=u.cs:=by
 have c:(t.tb,t.ks,t.cs)∈b.map (λt=>(t.tb,t.ks,t.cs)):=by rw[<-h];exact aZ.2 ⟨t,d,rfl⟩
 obtain⟨u,f,e⟩:=aZ.1 c;simp only[eY]at e;exact⟨u,f,e.1.symm,e.2.1.symm,e.2.2.symm⟩
def vS{a g:List ar}(h:a.map (λt=>(t.tb,t.ks,t.cs))=g.map (λt=>(t.tb,t.ks,t.cs)))(b:jp g):jp a:=by
 refine⟨λt e=>?_,by rw[(jn h).2.2.2];exact b.li⟩;obtain⟨u,f,_,c,d⟩:=KM h e;rw[c,d];exact b.pure u f
def Iu{a b c d j l m n:List ar}(e:a.map (λt=>(t.tb,t.ks,t.cs))=j.map (λt=>(t.tb,t.ks,t.cs)))(f:b.map (λt=>(t.tb,t.ks,t.cs))=l.map (λt=>(t.tb,t.ks,t.cs)))(g:c.map (λt=>(t.tb,t.ks,t.cs))=m.map (λt=>(t.tb,t.ks,t.cs)))(h:d.map (λt=>(t.tb,t.ks,t.cs))=n.map (λt=>(t.tb,t.ks,t.cs))):bZ a b c d=bZ j l m n:=by
 unfold bZ;rw[(jn e).2.2.1,(jn f).2.2.2,(jn g).2.2.2,(jn h).2.2.2]
structure NX(w w':J)(sb:Nat)(s:SR)(k:Int)(n C:Nat)(K:DK)(v0 v1 v2 v3:M)(a b c d:List ar)(K':DK)(num:Nat)(a' b' c' d':List ar):Prop where
 box:bX w' sb (s.settled v0 v1 v2 v3 n num) k
 st:ST w' sb (s.settled v0 v1 v2 v3 n num) K' [] a' b' c' d' C
 nE:Km (vw K'.files) (num+1) num n a' b' c' d' false []
 rows:bZ a' b' c' d'=bZ a b c d
 BO:((a'++b'++c'++d').map ar.tb).Nodup
 cY:K'.cY.length<=1000001
 num:s.next<=num/\num<=s.next+1000000
 aS:∀k,K'.aS s.aH k->K.aS s.aH k\/w.heap.size<=k
def GH(w:J)(sb:Nat)(s:SR)(k:Int)(base cv cl bg:Nat)(K:DK)(ps:List NT)(v0 v1 v2 v3:M)(bi bk bh bl h j l m:List ar)(bf:List (List E))(cT:bX w sb s k)(a:LS w s.aH sb base K (h++j++l++m) ps cv v0 v1 v2 v3 bi bk bh bl)(bt:xQ w sb 10 [(s.l0,h),(s.l1,j),(s.l2,l),(s.l3,m)])(hd:bR w s.aH K)(bc:¬K.aS s.aH sb)(G:Km (vw K.files) s.next s.log bg h j l m s.bQ bf)(cc:(jq ((bg:Int)+1) bf).length<=200000)(hn:cl<1000000000000000)(cE:s.next<=900000000000000)(bx:K.cY.length<=10000000000)(bb:(h++j++l++m).length<=1000000)(ax:∃db cl bh,s.memory=.slice db cl bh)(br:∀ac,ac=s.l0\/ac=s.l1\/ac=s.l2\/ac=s.l3->∀k,ac.ownBlock=some k->CE s.aH sb base K k):Calls prog 107 #[.pointer (some ⟨sb,0,none⟩),.agg #[v0,v1,v2,v3],.int .u64 cl] w λn w'=>n=.returned .nilIface/\∃K' num a' b' c' d',NX w w' sb s k cl cv K v0 v1 v2 v3 bi bk bh bl K' num a' b' c' d'/\I (λk=>Wr s.aH K ps k\/k=sb) w w':=by
 have cm:=a.count;have A:∀t∈h++j++l++m,t.num<s.next:=λt b=>(G.low t b).1;have bd:=G.total hd.nodup cc bb;have ao:∀t∈h++j++l++m,∀u∈h++j++l++m,t.num=u.num->t=u:=by
  intro t b u v n;obtain⟨i,C,rfl⟩:=eO.1 b;obtain⟨cp,hj,rfl⟩:=eO.1 v;have hn:=bG.1 G.uq;rcases jj i cp with q|q|q
  ·have:=hn i cp (by simpa using C) (by simpa using hj) q;simp only[gm]at this;exact absurd n this
  ·subst q;rfl
  ·have:=hn cp i (by simpa using hj) (by simpa using C) q;simp only[gm]at this;exact absurd n.symm this
 have N:∀F,s.next<=F->cR (vw K.files) (eM F)=none:=by
  intro F B;cases q:cR (vw K.files) (eM F)with
  |none=>rfl
  |some bs=>
   rcases G.names _ _ q with n|⟨n,_⟩|⟨t,b,n⟩
   ·exact absurd n (rB _)
   ·exact absurd n (jJ _ _)
   ·have:=qF n;have:=A t b;omega
 have bn:∀W,I (λ_=>False) w W->CF W s.aH sb base K (h++j++l++m) ps (bi++bk++bh++bl) s.next 201000000000:=λW b=>{le:=aB a.le b.size,aS:=a.aS,EX:=a.EX,xt:=λt c=>(by simp only[aw]at c;rcases c with((q|q)|q)|q<;>first|exact a.x0 t q|exact a.x1 t q|exact a.x2 t q|exact a.x3 t q),nodup:=a.nodup,apart:=a.apart,news:=λX r=>⟨(a.news X r).1.ay b (λ_ _ q=>q),(a.news X r).2⟩,inj:=ao,low:=A,fresh:=N,dQ:=a.dQ,jB:=a.jB,small:=by simp only[ag];omega,nx:=by omega,room:=by omega,mG:=bd,cY:=bx};have z:∀g,(lJ s (h++j++l++m) g).Nodup/\∀F∈lJ s (h++j++l++m) g,F≠eS/\∃bs,cR (vw K.files) F=some bs:=by
  intro g;have R:(jY (h++j++l++m) g).Sublist (h++j++l++m):=eE;have ad:((jY (h++j++l++m) g).map (λt=>eM t.num)).Nodup:=by
   have e:((jY (h++j++l++m) g).map ar.num).Nodup:=G.uq.sublist (R.map _);unfold List.Nodup at e|-;rw[jW]at e|-;exact e.imp (λa n=>a (qF n))
  have C:∀F∈(jY (h++j++l++m) g).map (λt=>eM t.num),F≠eS/\∃bs,cR (vw K.files) F=some bs:=by
   intro F B;obtain⟨t,b,rfl⟩:=aZ.1 B;exact⟨rB _,_,G.uh t (R.subset b)⟩
  unfold lJ;cases V:s.bQ with
  |false=>
   rw[dd (by simp),cL];exact⟨ad,C⟩
  |true=>
   rw[dr rfl];refine⟨?_,λF B=>?_⟩
   ·rw[iZ,iA];refine⟨λq=>?_,ad⟩;obtain⟨t,_,n⟩:=aZ.1 q;exact jJ _ _ n
   ·rcases aw.1 B with q|q
    ·rw[bE]at q;rw[q];exact⟨oo _,_,G.log V⟩
    ·exact C F q
 refine(EB w sb s k base cv cl 201000000000 K ps v0 v1 v2 v3 bi bk bh bl h j l m cT a bn bt hd bc hn (by have:=G.lt;omega) bb (λF bs B n=>?_) ax br z).mono ?_
 ·rcases G.names _ _ B with q|⟨q,_⟩|⟨t,_,q⟩
  ·exact BB (q.symm.trans n)
  ·exact FZ _ (q.symm.trans n)
  ·exact ys _ (q.symm.trans n)
 rintro n w'⟨rfl,w1,wr,KR,K8,g,a',b',c',d',num,cd,Q,f,ea,eb,ec,ed,bo,bp,W,ba,bv,U,O,S⟩;have cM:=cd.size;have cB:=a.le;have cn:=a.EX;have bT:∀ac,mS w s.aH sb base K ac->∀k,ac.ownBlock=some k->¬(Wr s.aH K ps k\/k=sb):=by
  rintro ac H k d(q|q)
  ·rcases q with q|⟨X,r,q|q⟩
   ·exact(H k d).2.1 q
   ·have C:=(a.news X r).1;rcases(H k d).2.2.2 with P|⟨R,fr,P⟩
    ·have:=(C.lt k (.inl q)).1;omega
    ·exact fj P C.mem.box (by decide) q
   ·have C:=(a.news X r).1;rcases(H k d).2.2.2 with P|⟨R,fr,P⟩
    ·have:=(C.lt k (.inr (.inr q))).1;omega
    ·obtain⟨ad,hc⟩:=dS C.data (k:=X.x) rfl;exact fj P hc (by decide) q
  ·exact(H k d).2.2.1 q
 have x:∀k,k<w.heap.size->¬K.aS s.aH k->k≠sb->Aside w' K8 s.aH sb k:=λk e L h3=>
  ⟨ah e O.size,λq=>(S k q).elim L (λP=>by omega),h3⟩
 have c:∀k,CE s.aH sb base K k->k<w.heap.size/\¬K.aS s.aH k/\k≠sb:=λk d=>⟨by have:=d.1;omega,d.2.1,d.2.2⟩;have cb:∀X∈ps,∀k,X.has k->k<w.heap.size/\¬K.aS s.aH k/\k≠sb:=λX r k d=>by
  have e:=(a.news X r).1.lt k d;exact⟨e.2,λq=>by have:=a.aS k q;omega,by omega⟩
 have p:∀u∈g,eM u.num∉lJ s (h++j++l++m) g:=by
  intro u v q;unfold lJ at q;rcases aw.1 q with P|P
  ·split at P
   ·rw[bE]at P;exact jJ _ _ P
   ·cases P
  ·obtain⟨t,b,n⟩:=aZ.1 P;have e2:=qF n;unfold jY at b;rw[eH]at b;have:g.any (λu=>u.num==t.num)=true:=qA.2 ⟨u,v,by rw[e2];exact beq_self_eq_true _⟩;rw[this]at b;simp at b
 have al:∀F,F∉lJ s (h++j++l++m) g->F≠eS->cR (vw K8.files) F=cR (vw KR.files) F:=λF e L=>by
  rw[W,pq e,qU,dd (λq=>L q.symm)]
 have y:∀u∈g,∃cs:Nat->Prop,nR wr s.aH (vw KR.files) cs u/\(∀k,cs k->k<w.heap.size/\¬K.aS s.aH k/\k≠sb)/\u.num<num:=λu v=>by
  rcases Q.Hy u v with q|⟨X,r,_,q,_,C⟩
  ·exact⟨_,Q.CN u q,c,by have:=A u q;have:=Q.mR.1;omega⟩
  ·exact⟨_,q,cb X r,C⟩
 have hO:∀u∈g,nR w' s.aH (vw K8.files) (Aside w' K8 s.aH sb) u:=λu v=>by
  obtain⟨cs,ho,C,_⟩:=y u v;have e:=ho.Jl (w':=w') (λk d=>U k (C k d).1 (C k d).2.1 (C k d).2.2);obtain⟨R,ad,bJ,B,ha⟩:=e.mem;refine⟨⟨R,ad,bJ,B,x R (C R ha).1 (C R ha).2.1 (C R ha).2.2⟩,x _ (C _ e.loc).1 (C _ e.loc).2.1 (C _ e.loc).2.2,e.ks,e.num,e.pure,e.idx,e.small,?_⟩;rw[al _ (p u v) (rB _)];exact e.file
 have ca:num<=s.next+1000000:=by have:=Q.mR.2;simp only[ag]at this;omega
 have o:∀ac(c a:List ar),mS w s.aH sb base K ac->Row w 1 ac c.length (c.map ar.ptr)->a.map (λt=>(t.tb,t.ks,t.cs))=c.map (λt=>(t.tb,t.ks,t.cs))->(∀t∈a,t∈g)->EU w' K8 s.aH sb ac a:=λac c a H hr he C=>by
  obtain⟨R,e2,_,_⟩:=jn he;refine⟨?_,λk d=>x k (H k d).1 (H k d).2.1 (H k d).2.2.1,λt b=>hO t (C t b)⟩;rw[R,e2];exact O.row hr (λk d=>⟨bT ac H k d,(H k d).1⟩)
 have an:∀k,CE s.aH sb base K k->w'.heap[k]?=w.heap[k]?:=λk d=>O.block k (by have:=d.1;omega) (by
  rintro(q|q)
  ·rcases q with q|⟨X,r,q|q⟩
   ·exact d.2.1 q
   ·have:=((a.news X r).1.lt k (.inl q)).1;have:=d.1;omega
   ·have:=((a.news X r).1.lt k (.inr (.inr q))).1;have:=d.1;omega
  ·exact d.2.2 q)
 have ce:∀t∈a',t∈g:=λt b=>by rw[f];simp[b]
 have ch:∀t∈b',t∈g:=λt b=>by rw[f];simp[b]
 have cj:∀t∈c',t∈g:=λt b=>by rw[f];simp[b]
 have ck:∀t∈d',t∈g:=λt b=>by rw[f];simp[b]
 have D:=Q.same;rw[bD]at D;refine⟨rfl,K8,num,a',b',c',d',⟨bo,?_,?_,Iu ea eb ec ed,?_,?_,⟨Q.mR.1,ca⟩,S⟩,O⟩
 ·exact{mem:=⟨rfl,.inl ⟨rfl,rfl⟩⟩,rI:=λk d=>(by cases d),l0:=o v0 bi a' a.b0 a.r0 ea ce,l1:=o v1 bk b' a.b1 a.r1 eb ch,l2:=o v2 bh c' a.b2 a.r2 ec cj,l3:=o v3 bl d' a.b3 a.r3 ed ck,aH:=bp,rf:=λq=>(S sb q).elim bc (λP=>by omega),ju:=⟨λcp hj=>(bI (w:=w) (an _ a.dQ)).trans (a.steps cp hj),a.pow.dh (an _ a.jB),x _ (c _ a.dQ).1 (c _ a.dQ).2.1 (c _ a.dQ).2.2,x _ (c _ a.jB).1 (c _ a.jB).2.1 (c _ a.jB).2.2⟩,mG:=(by rw[(jn ea).2.2.2,(jn eb).2.2.2,(jn ec).2.2.2,(jn ed).2.2.2];have:=a.mG;simp only[cH];omega),jU:=a.jU,li:=fG.nil,gU:=by simp,s1:=vS eb a.s1,s2:=vS ec a.s2,s3:=vS ed a.s3}
 ·have C:∀t∈a'++b'++c'++d',t.num<num:=λt b=>by
   rw[<-f]at b;obtain⟨_,_,_,h3⟩:=y t b;exact h3
  refine{names:=?_,state:=.inl ?_,log:=λq=>(by cases q),AM:=λ_=>rfl,uh:=?_,uq:=by rw[<-f];exact Q.uq,low:=λt b=>⟨by have:=C t b;omega,by have:=C t b;omega⟩,lt:=by omega,gU:=?_}
  ·intro F bs B;rw[W]at B;obtain⟨e,L⟩:=Gn ba B;rw[qU]at L;by_cases q:eS=F
   ·exact .inl q.symm
   rw[dd q]at L;obtain⟨gs,ad,bq⟩:=Q.files;rw[ad,gR]at L;cases P:cR (vw K.files) F with
   |none=>
    rw[P,ik]at L;obtain⟨u,v,n,_⟩:=bq _ (tg L);simp only[eY]at n;exact .inr (.inr ⟨u,by rw[<-f];exact v,n.1⟩)
   |some cx=>
    rcases G.names _ _ P with n|⟨n,V⟩|⟨t,b,n⟩
    ·exact absurd n.symm q
    ·refine absurd ?_ e;unfold lJ;rw[V,dr rfl,n];simp
    ·by_cases R:g.any (λu=>u.num==t.num)=true
     ·obtain⟨u,v,e2⟩:=qA.1 R;exact .inr (.inr ⟨u,by rw[<-f];exact v,by rw[n,eq_of_beq e2]⟩)
     ·refine absurd ?_ e;unfold lJ;rw[n];refine aw.2 (.inr (aZ.2 ⟨t,?_,rfl⟩));unfold jY;rw[eH];exact⟨b,by simpa using R⟩
  ·rw[W,pq (λq=>((z g).2 _ q).1 rfl),qU,dr rfl];rfl
  ·intro t b;rw[<-f]at b;exact(hO t b).file
  ·intro t b;rw[<-f]at b;have:=hO t b;exact⟨this.ks,this.pure,this.idx,this.small,this.num⟩
 ·rw[<-f,Lt (T:=bi++bk++bh++bl) (i:=(bi++bk++bh++bl).length) (by rw[bD];exact D),bD];exact a.nodup
 ·rw[bv];unfold lJ;rw[ag,bW];have e:(jY (h++j++l++m) g).length<=(h++j++l++m).length:=gY _ _;split
  ·simp only[aE,cH];omega
  ·simp only[cH];omega
def oC{w:J}{K:DK}{a sb k:Nat}(h:Aside w K a sb k):CE a sb w.heap.size K k:=⟨h.lt,h.aS,h.ne⟩
def nR.Kq{w:J}{c:Nat}{d:Fs}{A B:Nat->Prop}{t:ar}(h:nR w c d A t)(b:∀k,A k->B k):nR w c d B t:=by
 obtain⟨e,a,bJ,g,f⟩:=h.mem;exact⟨⟨e,a,bJ,g,b _ f⟩,b _ h.loc,h.ks,h.num,h.pure,h.idx,h.small,h.file⟩
def ST.PY{w:J}{sb:Nat}{s:SR}{K:DK}{n:List E}{f g j l:List ar}{C C':Nat}(h:ST w sb s K n f g j l C)(e:sb<w.heap.size)(c:((f++g++j++l).map ar.tb).Nodup)(m:(bN f).length+(bN g).length+(bN j).length+(bN l).length<=C')(d:C'<=1000000):LS w s.aH sb w.heap.size K (f++g++j++l) [] C' s.l0 s.l1 s.l2 s.l3 f g j l where
 D:=h.Nr
 le:=ai _
 aS:=h.aH.lt
 EX:=e
 steps:=h.ju.steps
 pow:=h.ju.pow
 dQ:=oC h.ju.dQ
 jB:=oC h.ju.jB
 qL:=λt b=>by
  simp only[aw]at b;rcases b with((q|q)|q)|q
  ·exact(h.l0.each t q).Kq (λ_=>oC)
  ·exact(h.l1.each t q).Kq (λ_=>oC)
  ·exact(h.l2.each t q).Kq (λ_=>oC)
  ·exact(h.l3.each t q).Kq (λ_=>oC)
 news:=by simp
 apart:=dK
 r0:=h.l0.row
 r1:=h.l1.row
 r2:=h.l2.row
 r3:=h.l3.row
 b0:=λk a=>⟨(h.l0.loc k a).lt,(h.l0.loc k a).aS,(h.l0.loc k a).ne,.inl (h.l0.loc k a).lt⟩
 b1:=λk a=>⟨(h.l1.loc k a).lt,(h.l1.loc k a).aS,(h.l1.loc k a).ne,.inl (h.l1.loc k a).lt⟩
 b2:=λk a=>⟨(h.l2.loc k a).lt,(h.l2.loc k a).aS,(h.l2.loc k a).ne,.inl (h.l2.loc k a).lt⟩
 b3:=λk a=>⟨(h.l3.loc k a).lt,(h.l3.loc k a).aS,(h.l3.loc k a).ne,.inl (h.l3.loc k a).lt⟩
 x0:=λt b=>.inl (by simp[b])
 x1:=λt b=>.inl (by simp[b])
 x2:=λt b=>.inl (by simp[b])
 x3:=λt b=>.inl (by simp[b])
 nodup:=c
 s1:=h.s1
 s2:=h.s2
 s3:=h.s3
 mG:=m
 jU:=d
def LS.Pe{y j:J}{k sb base C:Nat}{K:DK}{n:List ar}{A u w x d:M}{b e f g:List ar}{p:NT}(h:LS y k sb base K n [] C A u w x b e f g)(s:I (λ_=>False) y j)(r:p.Ok j y.heap.size)(m:ET p.t)(o:j.ownsRow y.heap.size 199 1 d (b++[p.t]).length ((b++[p.t]).map ar.ptr))(E:(bN b).length+(bN e).length+(bN f).length+(bN g).length+p.t.all.length<=C):LS j k sb base K n [p] C d u w x (b++[p.t]) e f g:=by
 have h':=h.ay (s.mono (λ_ q=>q.elim)) ((ku k K).dF h.D s (λ_ q=>q.elim));refine{h' with news:=?_,apart:=by simp,r0:=cW o,b0:=tG o h.aS h.EX h.le,x0:=?_,x1:=λt q=>(h.x1 t q).more [p],x2:=λt q=>(h.x2 t q).more [p],x3:=λt q=>(h.x3 t q).more [p],nodup:=?_,mG:=?_}
 ·intro q a;rw[bE]at a;subst a;exact⟨r.base h.le,m⟩
 ·intro t q;rcases aw.1 q with q|q
  ·exact(h.x0 t q).more [p]
  ·rw[bE]at q;exact .inr ⟨p,by simp,q.symm⟩
 ·have a:(b++[p.t]++e++f++g).Perm (p.t::(b++e++f++g)):=by
   have l:b++[p.t]++e++f++g=b++p.t::(e++f++g):=by simp
   have z:b++e++f++g=b++(e++f++g):=by simp only[aV]
   rw[l,z];exact jy
  rw[(a.map ar.tb).nodup_iff,aY,iA];refine⟨λq=>?_,h.nodup⟩;obtain⟨t,c,F⟩:=aZ.1 q;have B:=r.new;have D:t.tb<y.heap.size:=by
   simp only[aw]at c;rcases c with((l|l)|l)|l
   ·exact XT.mP h (h.x0 t l)
   ·exact XT.mP h (h.x1 t l)
   ·exact XT.mP h (h.x2 t l)
   ·exact XT.mP h (h.x3 t l)
  omega
 ·rw[gw];have:bN [p.t]=p.t.all:=by simp[bN]
  rw[this,ag];omega
def LZ{W w:J}{d:Nat}{l:List E}{a:List (List E)}{e bJ f eL:Nat}(h:Br W w d l a e bJ f eL)(c:l≠[])(g:∀x∈l,x.Good)(j:fG l)(k:l.length<=100):NT.Ok w W.heap.size ⟨⟨d,aW 0 a,a,0⟩,e,bJ,f,eL⟩/\ET ⟨d,aW 0 a,a,0⟩/\ar.all ⟨d,aW 0 a,a,0⟩=l:=by
 have b:a.flatten=l:=h.pieces.flat;refine⟨⟨rfl,rfl,by show mD a.flatten a;rw[b];exact h.pieces,h.mem,h.data,h.xO,h.new⟩,⟨h.pieces.dw c g j,h.pieces.idx c g j k,?_⟩,b⟩;have m:=h.pieces.data;have n:=h.pieces.length;show(cC a).length<=100000;omega
def LS.OE{w:J}{d sb base C:Nat}{K:DK}{i:List ar}{l:List NT}{m n o p:M}{u x y z:List ar}(h:LS w d sb base K i l C m n o p u x y z):∃c,LS w d sb base c i l C m n o p u x y z/\bR w d c/\c.files=K.files/\c.cY=K.cY/\∀k,c.aS d k->K.aS d k:=by
 obtain⟨r,c,g,j,q,f⟩:=h.D;have b:∀k,CE d sb base K k->CE d sb base c k:=λk e=>⟨e.1,λt=>e.2.1 (f k t),e.2.2⟩;have a:∀v,mS w d sb base K v->mS w d sb base c v:=λv b k e=>⟨(b k e).1,λt=>(b k e).2.1 (f k t),(b k e).2.2⟩;refine⟨c,{h with D:=Hm g g.lt,aS:=λk e=>h.aS k (f k e),dQ:=b _ h.dQ,jB:=b _ h.jB,qL:=λv s=>?_,b0:=a _ h.b0,b1:=a _ h.b1,b2:=a _ h.b2,b3:=a _ h.b3},g,j,q,f⟩;rw[j];exact(h.qL v s).Kq b
def LS.other{w s:J}{f sb base Q:Nat}{K:DK}{t:List ar}{z:List NT}{B C E F:M}{R U W X:List ar}{S:Nat->Prop}(h:LS w f sb base K t z Q B C E F R U W X)(d:I S w s)(o:∀k,S k->base<=k/\∃g j,w.heap[k]?=some (.cells g 107 j)):LS s f sb base K t z Q B C E F R U W X:=by
 have hF:∀k,S k->¬(ku f K).F k:=λk a A=>by have:=h.aS k A;have:=(o k a).1;omega
 have e:∀k,CE f sb base K k->¬S k:=λk a A=>by have:=a.1;have:=(o k A).1;omega
 have b:∀v,mS w f sb base K v->∀k,v.ownBlock=some k->¬S k:=λv q k a A=>by
  obtain⟨N,g,j,r⟩:=o k A;rcases(q k a).2.2.2 with L|⟨u,G,L⟩
  ·omega
  ·exact fj L r (by decide) rfl
 have c:∀v,mS w f sb base K v->mS s f sb base K v:=λv q k a=>by
  obtain⟨u,G,L,N⟩:=q k a;exact⟨ah u d.size,G,L,N.imp id (λ⟨g,j,e⟩=>⟨g,j,(d.block k u (b v q k a)).trans e⟩)⟩
 refine{h with D:=(ku f K).dF h.D d hF,le:=aB h.le d.size,steps:=λac O=>d.cell (h.steps ac O) (e _ h.dQ) (ah h.dQ.1 h.le),pow:=h.pow.dh (d.block _ (ah h.jB.1 h.le) (e _ h.jB)),qL:=λad H=>(h.qL ad H).Jl (λk a=>d.block k (ah a.1 h.le) (e k a)),news:=λp y=>⟨?_,(h.news p y).2⟩,r0:=d.row h.r0 (λk a=>⟨b _ h.b0 k a,(h.b0 k a).1⟩),r1:=d.row h.r1 (λk a=>⟨b _ h.b1 k a,(h.b1 k a).1⟩),r2:=d.row h.r2 (λk a=>⟨b _ h.b2 k a,(h.b2 k a).1⟩),r3:=d.row h.r3 (λk a=>⟨b _ h.b3 k a,(h.b3 k a).1⟩),b0:=c _ h.b0,b1:=c _ h.b1,b2:=c _ h.b2,b3:=c _ h.b3};exact Kg.other (h.news p y).1 d (λk a=>by
  obtain⟨_,g,j,r⟩:=o k a;exact⟨g,_,j,r,by decide,by decide,by decide⟩)
structure SV(w:J)(sb:Nat)(s:SR)(k:Int)(lb:Nat)(K:DK)(T0:List ar)(C n:Nat)(R0:aa->Option aa)(wr:J)(v0 v1 v2 v3:M)(a b c d:List ar)(ps:List NT):Prop where
 ls:LS wr s.aH sb w.heap.size K T0 ps C v0 v1 v2 v3 a b c d
 lb:wr.heap[lb]?=some (.cells #[v0,v1,v2,v3] 107 (0,0))
 pr:PR n (bZ a b c d)
 sL:∀q,seen (bZ a b c d) q=R0 q
 box:bX wr sb s k
 ay:I (K.aS s.aH) w wr
def CD(w:J)(sb:Nat)(s:SR)(n:Int)(c:Nat)(K:DK)(b:List ar)(C o:Nat)(a:aa->Option aa)(wr:J):Prop:=∃e f g h j k l m d,SV w sb s n c K b C o a wr e f g h j k l m d
def rZ(w:J)(a i:Nat):Nat:=match w.cell? ⟨a,i,none⟩with
 |some (.slice _ n _)=>n
 |_=>0
def qP{w:J}{a i n:Nat}{x:Option Addr}{c:Nat}(h:w.cell? ⟨a,i,none⟩=some (.slice x n c)):rZ w a i=n:=by
 unfold rZ;rw[h]
def SV.put{w wr w2:J}{sb lb O n:Nat}{A:SR}{k:Int}{K:DK}{o:List ar}{B:aa->Option aa}{E F G H u0 u1 u2 u3:M}{a b c ac a' b' c' d':List ar}{X ps':List NT}(h:SV w sb A k lb K o O n B wr E F G H a b c ac X)(r:w.heap.size<=lb)(y:¬K.aS A.aH sb)(R:LS w2 A.aH sb w.heap.size K o ps' O u0 u1 u2 u3 a' b' c' d')(U:PR n (bZ a' b' c' d'))(hs:∀q,seen (bZ a' b' c' d') q=seen (bZ a b c ac) q)(z:I (K.aS A.aH) wr w2):w2.heap[lb]?=some (.cells #[E,F,G,H] 107 (0,0))/\SV w sb A k lb K o O n B ((((w2.setCell ⟨lb,0,none⟩ u0).setCell ⟨lb,1,none⟩ u1).setCell ⟨lb,2,none⟩ u2).setCell ⟨lb,3,none⟩ u3) u0 u1 u2 u3 a' b' c' d' ps':=by
 have s:¬K.aS A.aH lb:=λq=>by have:=h.ls.aS lb q;omega
 have d:=(z.block lb (ak h.lb) s).trans h.lb;have g:I (λq=>q=lb) w2 ((((w2.setCell ⟨lb,0,none⟩ u0).setCell ⟨lb,1,none⟩ u1).setCell ⟨lb,2,none⟩ u2).setCell ⟨lb,3,none⟩ u3):=((((I.refl (λq=>q=lb) w2).setCell _ _ _ (.inl rfl)).setCell _ _ _ (.inl rfl)).setCell _ _ _ (.inl rfl)).setCell _ _ _ (.inl rfl);have W:sb<w.heap.size:=h.ls.EX;refine⟨d,R.other g (λq D=>by subst D;exact⟨r,_,_,d⟩),BT d,U,λq=>(hs q).trans (h.sL q),?_,?_⟩
 ·have C:=(z.block sb (ak h.box) y).trans h.box;exact(g.block sb (ak C) (λq=>by omega)).trans C
 ·exact(h.ay.trans z (λ_ q=>.inl q)).trans g (λq D=>.inr (by omega))
structure CC(w w':J)(sb:Nat)(s:SR)(k:Int)(n C:Nat)(K:DK)(R0:aa->Option aa)(v0 v1 v2 v3:M)(K':DK)(num:Nat)(a' b' c' d':List ar):Prop where
 box:bX w' sb (s.settled v0 v1 v2 v3 n num) k
 st:ST w' sb (s.settled v0 v1 v2 v3 n num) K' [] a' b' c' d' C
 nE:Km (vw K'.files) (num+1) num n a' b' c' d' false []
 pr:PR n (bZ a' b' c' d')
 sL:∀q,seen (bZ a' b' c' d') q=R0 q
 BO:((a'++b'++c'++d').map ar.tb).Nodup
 cY:K'.cY.length<=1000001
 num:s.next<=num/\num<=s.next+1000000
 eA:eN w w' s.aH sb K K'
def PR.mono{n d:Nat}{e:List (List E)}(h:PR n e)(o:n<=d):PR d e:=⟨h.rY,h.li,h.gU,λx g=>by have:=h.low x g;omega⟩
def Ol:(prog.info? 105).map (λi=>(i.zero,i.size,i.bytes))=some (some (.slice none 0 0),1,24):=by kernel_rfl
def Fv(G:J)(sb:Nat)(s:SR)(V:Int)(lb:Nat)(K:DK)(ao:List E)(g h j k:List ar)(X W O f:Nat)(e:List (List E))(L:aa->Option aa)(wr:J)(o r t u:M)(ad al R an:List ar)(P:List NT)(l:SV G sb s V lb K (g++h++j++k) W O L wr o r t u ad al R an P)(h0:bX G sb s V)(a:ST G sb s K ao g h j k X)(hI:Km (vw K.files) s.next s.log f g h j k s.bQ e)(C:(jq ((f:Int)+1) e).length<=200000)(hn:O<1000000000000000)(B:s.next<=900000000000000)(A:K.cY.length<=10000000000):Calls prog 107 #[.pointer (some ⟨sb,0,none⟩),.agg #[o,r,t,u],.int .u64 O] wr λS Q=>S=.returned .nilIface/\∃w num a' b' c' d',CC G Q sb s V O W K L o r t u w num a' b' c' d':=by
 obtain⟨H,x,y,e1,e2,m⟩:=l.ls.OE;have N:=a.count;have D:(g++h++j++k).length<=1000000:=by
  have n:=a.mG;have h2:=a.jU;have:=jl (λt F=>(a.l0.each t F).pure);have:=jl a.s1.pure;have:=jl a.s2.pure;have:=jl a.s3.pure;simp only[ag];omega
 have z:xQ wr sb 10 [(s.l0,g),(s.l1,h),(s.l2,j),(s.l3,k)]:=by
  refine(a.PS h0).ay l.ay a.rf (λi n b c=>?_);have:i=0\/i=1\/i=2\/i=3:=by simp at n;omega
  rcases this with rfl|rfl|rfl|rfl
  ·exact(a.l0.loc b c).aS
  ·exact(a.l1.loc b c).aS
  ·exact(a.l2.loc b c).aS
  ·exact(a.l3.loc b c).aS
 have ac:=l.ls.EX;refine(GH wr sb s V G.heap.size W O f H P o r t u ad al R an g h j k e l.box x z y (λq=>a.rf (m sb q)) (by rw[e1];exact hI) C hn B (by rw[e2];exact A) D ?_ ?_).mono ?_
 ·obtain⟨n,R,S⟩:=bA a.mem;exact⟨n,_,R,S⟩
 ·have n:∀b,Aside G K s.aH sb b->CE s.aH sb G.heap.size H b:=λb q=>⟨q.lt,λU=>q.aS (m b U),q.ne⟩;rintro v(rfl|rfl|rfl|rfl)b c
  ·exact n _ (a.l0.loc b c)
  ·exact n _ (a.l1.loc b c)
  ·exact n _ (a.l2.loc b c)
  ·exact n _ (a.l3.loc b c)
 rintro S Q⟨rfl,w,num,a',b',c',d',d,F⟩;have hz:=l.ay.size;refine⟨rfl,w,num,a',b',c',d',d.box,d.st,d.nE,by rw[d.rows];exact l.pr,λq=>by rw[d.rows];exact l.sL q,d.BO,d.cY,d.num,d.st.aH,?_,?_⟩
 ·refine(l.ay.mono (T:=λb=>K.aS s.aH b\/b=sb) (λ_ q=>.inl (.inl q))).trans F (λb q=>?_);rcases q with(q|⟨p,n,q⟩)|q
  ·exact .inl (.inl (m b q))
  ·refine .inr ?_;rcases q with q|q
   ·exact((l.ls.news p n).1.lt b (.inl q)).1
   ·exact((l.ls.news p n).1.lt b (.inr (.inr q))).1
  ·exact .inl (.inr q)
 ·intro b q;rcases d.aS b q with U|U
  ·exact .inl (m b U)
  ·exact .inr (by omega)
end Go.Proofs.YtophdnlmpfmeiaaGreatDoor
