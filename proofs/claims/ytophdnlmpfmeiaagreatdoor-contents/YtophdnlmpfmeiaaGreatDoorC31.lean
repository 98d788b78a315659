import Derived.Test.YtophdnlmpfmeiaaGreatDoorC27
import Derived.Test.YtophdnlmpfmeiaaGreatDoorC28
namespace Go.Proofs.YtophdnlmpfmeiaaGreatDoor
open ChangeShapes WideShapes RowKit Proofs.Tryz
set_option maxHeartbeats 16000000
set_option linter.all false
set_option maxRecDepth 100000
section
open Go.Conc.Locks
def oU(b a:aa)(limit:Int)(c:List (List E)):List KV:=pC a limit [] (((dt b c).filter (λe=>!e.del)).map tR)
def qJ(s:SR)(m:List E)(a b c d:List ar):(oV s m a b c d).map (·.2)=m::bZ a b c d:=by
 simp[oV,bZ,qy,jX]
def MJ(a:List ar):((a.map ar.all).reverse).flatten.length=(bN a).length:=by
 unfold bN;rw[jw,jw,qy,List.sum_reverse]
def ST.flat{w:J}{sb:Nat}{s:SR}{K:DK}{m:List E}{a c d e:List ar}{C:Nat}(h:ST w sb s K m a c d e C):(m::bZ a c d e).flatten.length<=C:=by
 have f:=h.mG;have b:=MJ a;unfold bZ;rw[aT,dl];simp only[ag,b,aT,dH,cH];omega
def ST.Mb{w:J}{sb:Nat}{s:SR}{K:DK}{m:List E}{e f g h:List ar}{C:Nat}(i:ST w sb s K m e f g h C):∀x∈(m::bZ e f g h).flatten,x.Good:=by
 intro x b;rw[<-qJ s]at b;obtain⟨l,c,a⟩:=bH.1 b;obtain⟨r,d,rfl⟩:=aZ.1 c;exact i.Dh r d x a
def vK(w a:J)(v:M)(l:List KV):Prop:=a.ownsRow w.heap.size 68 2 v l.length (eQ l)
def DA(w:J)(sb:Nat)(s:SR)(K:DK)(m:List E)(g h i j:List ar)(C:Nat)(c b:aa)(limit:Int)(k:bX w sb s 1)(a:ST w sb s K m g h i j C):Calls prog 57 #[.pointer (some ⟨sb,0,none⟩),.string c,.string b,.int .i64 limit] w λr e=>∃n,r=.returned (.tuple #[n,.nilIface])/\vK w e n (oU c b limit (m::bZ g h i j))/\(ku s.aH K).D e/\I (ku s.aH K).F w e:=by
 obtain⟨q,p,d⟩:=bA a.mem;have l:=IQ (ku s.aH K) w.heap.size w sb s 1 (s.l0,g) (s.l1,h) (s.l2,i) (s.l3,j) (oV s m g h i j) c b limit k q m.length p d (a.PS k) (AC s m g h i j) (λt b=>a.OR _ (au b)) a.Nr (ai _) a.aH.lt (by
  rw[qJ];intro x o;have:=a.Mb x (lq o);exact⟨by have:=this.Ed;omega,by have:=this.val;omega⟩)
  (by
   rw[qJ];have:=lu c (m::bZ g h i j);have:=a.flat;have:=a.jU;omega)
 rw[qJ]at l;exact l
def wR(w:J)(sb:Nat)(s:SR)(o n:aa)(limit:Int)(h:bX w sb s 0)(d:s.closed=true):Calls prog 31 #[.pointer (some ⟨sb,0,none⟩),.string o,.string n,.int .i64 limit] w λe c=>e=.returned (.tuple #[.slice none 0 0,kr 6])/\bX c sb s 0/\I (λk=>k=sb) w c:=by
 have i:w.cell? ⟨sb,0,none⟩=some (.int .i32 0):=h.cell rfl;have l:w.frozen? ⟨sb,0,none⟩=false:=h.free;have b:=h.gH 1;have a:=jC _ sb s 1 b;rw[d]at a;simp only[iY]at a;have j:(w.setCell ⟨sb,0,none⟩ (.int .i32 1)).cell? ⟨sb,0,none⟩=some (.int .i32 1):=b.cell rfl;have m:(w.setCell ⟨sb,0,none⟩ (.int .i32 1)).frozen? ⟨sb,0,none⟩=false:=b.free;have g:=Z (show bX ((w.setCell ⟨sb,0,none⟩ (.int .i32 1)).setCell ⟨sb,0,none⟩ (.int .i32 0)) sb s 0/\I (λk=>k=sb) w ((w.setCell ⟨sb,0,none⟩ (.int .i32 1)).setCell ⟨sb,0,none⟩ (.int .i32 0))from⟨b.gH 0,((I.refl (λk=>k=sb) w).setCell sb 0 _ (.inl rfl)).setCell sb 0 _ (.inl rfl)⟩);clear h b d;unfold kr at a|-;simp only[Int.reduceEq,ji]at a|-;go_enter_defers func31,ntmps31
 go_wp2_with fail
 refine(lock_free ⟨sb,0,none⟩ _ i l).mono ?_;rintro e c⟨rfl,rfl⟩;go_wp2_with fail
 refine a.mono ?_;rintro e c⟨rfl,rfl⟩;go_wp2;refine ij (f:=40) (args:=#[.pointer (some ⟨sb,0,none⟩)]) (by simp) (by simp[go_sem]) ?_;refine(unlock_deferred ⟨sb,0,none⟩ .returning _ j m).mono ?_;rintro e q p⟨rfl,rfl,rfl⟩;exact⟨_,uA rfl _ _ _,rfl,Y g⟩
def Dr{w n w2:J}{sb:Nat}{s:SR}{K:DK}{A:List E}{u v x y:List ar}{C:Nat}(z:bX w sb s 0)(h:ST w sb s K A u v x y C)(t:w.setCell ⟨sb,0,none⟩ (.int .i32 1)=n)(m:(ku s.aH K).D w2)(k:I (ku s.aH K).F n w2):w2.cell? ⟨sb,0,none⟩=some (.int .i32 1)/\w2.frozen? ⟨sb,0,none⟩=false/\tr w (w2.setCell ⟨sb,0,none⟩ (.int .i32 0)) sb s K A u v x y C:=by
 have c:=ak z;have b:=qO h.aH h.rf 1;have l:=z.gH 1;have i:=h.eA c b rfl;rw[t]at b l i;have g:=ak l;have a:bX w2 sb s 1:=(k.block sb g i.rf).trans l;obtain⟨p,d,o,q,r⟩:=KX b m k;have j:=d.sb h.rf c;have e:=d.set j 0 (.int .i32 0);exact⟨a.cell rfl,a.free,p,e,o,q,r,a.gH 0,h.eA c e (by rw[o])⟩
def vK.unlock{w a:J}{v:M}{l:List KV}{sb:Nat}{u:M}(h:vK w a v l)(b:sb<w.heap.size):vK w (a.setCell ⟨sb,0,none⟩ u) v l:=by
 unfold vK at h|-;exact h.kept (co a _ _ _) (by right;intro c;have:=(h.lt _ c).1;omega)
def AA(w:J)(sb:Nat)(x:SR)(Q:DK)(H:List E)(B C D F:List ar)(L:Nat)(u t:aa)(limit:Int)(v:bX w sb x 0)(m:ST w sb x Q H B C D F L)(z:x.closed=false):Calls prog 31 #[.pointer (some ⟨sb,0,none⟩),.string u,.string t,.int .i64 limit] w λy h=>∃A,y=.returned (.tuple #[A,.nilIface])/\vK w h A (oU u t limit (H::bZ B C D F))/\tr w h sb x Q H B C D F L:=by
 have k:=ak v;have R:w.cell? ⟨sb,0,none⟩=some (.int .i32 0):=v.cell rfl;have T:w.frozen? ⟨sb,0,none⟩=false:=v.free;have d:=qO m.aH m.rf 1;have p:=v.gH 1;have e:=m.eA k d rfl;have g:(w.setCell ⟨sb,0,none⟩ (.int .i32 1)).heap.size=w.heap.size:=gp;obtain⟨o,q⟩:∃o,w.setCell ⟨sb,0,none⟩ (.int .i32 1)=o:=⟨_,rfl⟩;rw[q]at d p e g;have b:=jC _ sb x 1 p;rw[z]at b;simp only[ic,ji]at b;have l:=DA o sb x Q H B C D F L u t limit p e;have i:=Z (λw2 a c=>Dr (w2:=w2) v m q a c);have O:=Z (show∀w2 K G,vK o w2 K G->vK w (w2.setCell ⟨sb,0,none⟩ (.int .i32 0)) K G fromλw2 K G s=>by
  have:vK w w2 K G:=by unfold vK at s|-;rw[g]at s;exact s
  exact this.unlock k)
 have P:=Z q;clear v m d p e z q g;go_enter_defers func31,ntmps31
 go_wp2_with fail
 refine(lock_free ⟨sb,0,none⟩ _ R T).mono ?_;rintro y h⟨rfl,n⟩;rw[Y P]at n;subst h;go_wp2_with fail
 refine b.mono ?_;rintro y h⟨rfl,n⟩;subst h;unfold kr;simp only[iY];go_wp2_with fail
 refine l.mono ?_;rintro y w2⟨X,rfl,j,a,c⟩;obtain⟨S,U,hF⟩:=(Y i) w2 a c;have N:=Z hF;have r:=Z ((Y O) _ _ _ j);clear a c hF l b j;go_wp2;refine ij (f:=40) (args:=#[.pointer (some ⟨sb,0,none⟩)]) (by simp) (by simp[go_sem]) ?_;refine(unlock_deferred ⟨sb,0,none⟩ .returning _ S U).mono ?_;rintro y W V⟨rfl,rfl,rfl⟩;exact⟨_,uA rfl _ _ _,_,rfl,Y r,Y N⟩
def Bv(w:J)(sb:Nat)(s:SR)(o n:aa)(h:bX w sb s 0)(d:s.closed=true):Calls prog 93 #[.pointer (some ⟨sb,0,none⟩),.string o,.string n] w λe c=>e=.returned (.slice none 0 0)/\bX c sb s 0/\I (λk=>k=sb) w c:=by
 have i:w.cell? ⟨sb,0,none⟩=some (.int .i32 0):=h.cell rfl;have l:w.frozen? ⟨sb,0,none⟩=false:=h.free;have b:=h.gH 1;have a:=jC _ sb s 1 b;rw[d]at a;simp only[iY]at a;have j:(w.setCell ⟨sb,0,none⟩ (.int .i32 1)).cell? ⟨sb,0,none⟩=some (.int .i32 1):=b.cell rfl;have m:(w.setCell ⟨sb,0,none⟩ (.int .i32 1)).frozen? ⟨sb,0,none⟩=false:=b.free;have g:=Z (show bX ((w.setCell ⟨sb,0,none⟩ (.int .i32 1)).setCell ⟨sb,0,none⟩ (.int .i32 0)) sb s 0/\I (λk=>k=sb) w ((w.setCell ⟨sb,0,none⟩ (.int .i32 1)).setCell ⟨sb,0,none⟩ (.int .i32 0))from⟨b.gH 0,((I.refl (λk=>k=sb) w).setCell sb 0 _ (.inl rfl)).setCell sb 0 _ (.inl rfl)⟩);clear h b d;unfold kr at a;simp only[Int.reduceEq,ji]at a;go_enter_defers func93,ntmps93
 go_wp2_with fail
 refine(lock_free ⟨sb,0,none⟩ _ i l).mono ?_;rintro e c⟨rfl,rfl⟩;go_wp2_with fail
 refine a.mono ?_;rintro e c⟨rfl,rfl⟩;go_wp2;refine ij (f:=40) (args:=#[.pointer (some ⟨sb,0,none⟩)]) (by simp) (by simp[go_sem]) ?_;refine(unlock_deferred ⟨sb,0,none⟩ .returning _ j m).mono ?_;rintro e q p⟨rfl,rfl,rfl⟩;exact⟨_,iL rfl _ _ _,rfl,Y g⟩
def Fi(w:J)(sb:Nat)(x:SR)(Q:DK)(H:List E)(B C D F:List ar)(L:Nat)(u t:aa)(v:bX w sb x 0)(m:ST w sb x Q H B C D F L)(z:x.closed=false):Calls prog 93 #[.pointer (some ⟨sb,0,none⟩),.string u,.string t] w λy h=>∃A,y=.returned A/\vK w h A (oU u t 0 (H::bZ B C D F))/\tr w h sb x Q H B C D F L:=by
 have k:=ak v;have R:w.cell? ⟨sb,0,none⟩=some (.int .i32 0):=v.cell rfl;have T:w.frozen? ⟨sb,0,none⟩=false:=v.free;have d:=qO m.aH m.rf 1;have p:=v.gH 1;have e:=m.eA k d rfl;have g:(w.setCell ⟨sb,0,none⟩ (.int .i32 1)).heap.size=w.heap.size:=gp;obtain⟨o,q⟩:∃o,w.setCell ⟨sb,0,none⟩ (.int .i32 1)=o:=⟨_,rfl⟩;rw[q]at d p e g;have b:=jC _ sb x 1 p;rw[z]at b;simp only[ic,ji]at b;have l:=DA o sb x Q H B C D F L u t 0 p e;have i:=Z (λw2 a c=>Dr (w2:=w2) v m q a c);have O:=Z (show∀w2 K G,vK o w2 K G->vK w (w2.setCell ⟨sb,0,none⟩ (.int .i32 0)) K G fromλw2 K G s=>by
  have:vK w w2 K G:=by unfold vK at s|-;rw[g]at s;exact s
  exact this.unlock k)
 have P:=Z q;clear v m d p e z q g;go_enter_defers func93,ntmps93
 go_wp2_with fail
 refine(lock_free ⟨sb,0,none⟩ _ R T).mono ?_;rintro y h⟨rfl,n⟩;rw[Y P]at n;subst h;go_wp2_with fail
 refine b.mono ?_;rintro y h⟨rfl,n⟩;subst h;unfold kr;simp only[iY];go_wp2_with fail
 refine l.mono ?_;rintro y w2⟨V,rfl,j,a,c⟩;obtain⟨S,U,hF⟩:=(Y i) w2 a c;have N:=Z hF;have r:=Z ((Y O) _ _ _ j);clear a c hF l b j;go_wp2;refine ij (f:=40) (args:=#[.pointer (some ⟨sb,0,none⟩)]) (by simp) (by simp[go_sem]) ?_;refine(unlock_deferred ⟨sb,0,none⟩ .returning _ S U).mono ?_;rintro y X W⟨rfl,rfl,rfl⟩;exact⟨_,iL rfl _ _ _,V,rfl,Y r,Y N⟩
end
section
open Go.Shelf
attribute [local go_sem] Oper.semAt_some
def JH(sb:Nat)(s:SR):gz:=⟨λw=>bX w sb s 0,λk=>k=sb,λ{_ _ _}h c b=>(c.block sb (ak h) (λd=>b _ d rfl)).trans h,λ{_ _}h a=>by subst a;exact ak h⟩
def Hw(p:KV):Array M:=#[.string p.1,.string p.2]
def Bm(n0 m D u sb:Nat)(cc:SR)(v:M)(a:List KV)(bn:J)(P:dY bn D v 37)(O:dY bn u (.pointer (some ⟨sb,0,none⟩)) 35)(hr:Row bn 2 v a.length (eQ a))(h1:D≠sb)(h2:u≠sb)(h3:∀k,v.ownBlock=some k->k<bn.heap.size/\k≠sb)(cm:sb<n0)(bf:n0<=bn.heap.size)(cn:a.length<=1000000000):Oo Hw (JH sb cc) n0 m 94 #[.pointer (some ⟨D,0,none⟩),.pointer (some ⟨u,0,none⟩)] (if cc.closed then []else a) (λk=>k=D\/k=u\/v.ownBlock=some k) bn:=by
 intro lr cs Jx cx cB hs hD hJ ax j bk hY;obtain⟨cp,G,hv⟩:=bA hr;have ck:cB.cell? ⟨D,0,none⟩=some v:=hs.cell (.inl (.inl rfl)) P.cell;have F:∀k,(k=D\/k=u\/v.ownBlock=some k)->k<bn.heap.size/\k≠sb:=by
  rintro k(q|q|q)
  ·rw[q];exact⟨ak P,h1⟩
  ·rw[q];exact⟨ak O,h2⟩
  ·exact h3 k q
 have f:=Z F;have HB:=Z O;have HR:=Z hr;have HS:=Z hs;have HJ:=Z hJ;have HD:=Z hD;have bs:=Z ax;have HY:=Z hY;have W:=Z j;have ac:=Z bk;clear P O hr h3 hs hJ ax j bk hY hD F h1;subst hv;obtain⟨R,bb⟩:∃R,cc.closed=R:=⟨_,rfl⟩;rw[bb]at HY|-;obtain⟨l,hl⟩:∃l,(if R=true then []else a)=l:=⟨_,rfl⟩;rw[hl]at HY|-;have t:=Z hl;clear hl;refine tV func94 rfl trivial ?_ rfl;simp only[ntmps94,gC,aE,cH,Nat.reduceAdd,Nat.reduceSub,fq,fp,gD,fI,cL,dI];gi_wp2;gi_loopw [8] (λi wr=>∃(o:Nat)(H:Nat->Prop),i=.int .i64 (o:Int)/\o<=a.length/\(R=true->o=0)/\cs (a.take o) H wr/\bX wr sb cc 0/\(∀k,(k=D\/k=u\/(Value.slice cp a.length G).ownBlock=some k)->¬H k)/\ia (JH sb cc) n0 (λk=>k=D\/k=u\/(Value.slice cp a.length G).ownBlock=some k) bn wr) (λi _=>a.length-(intOf i).toNat)
 case atStart=>exact⟨0,cx,by go_num,aU _,λ_=>rfl,Y HJ,Y HD,Y bs,Y HS⟩
 case round=>
  obtain⟨o,H,rfl,hj,x,w,q,E,b⟩:=hrel;have C:=Z E;clear E;by_cases j:o<a.length
  ·have e1:(o:Int)<(a.length:Int):=by omega
   have e2:(0:Int)<=(o:Int):=by omega
   have hg:=kH a o j;have bc:∃ch y,cp=some ⟨ch,y,none⟩/\wr.cell? ⟨ch,y+o*2,none⟩=some (.string a[o].1)/\wr.cell? ⟨ch,y+o*2+1,none⟩=some (.string a[o].2):=by
    obtain⟨q1,⟨q2,q0⟩|⟨ao,X,ad,q2,al,hc⟩⟩:=Y HR
    ·omega
    ·cases q2;exact⟨ao,X,rfl,b.cell (.inl (.inr (.inr rfl))) (hc _ _ hg.1),b.cell (.inl (.inr (.inr rfl))) (by rw[aP];exact hc _ _ hg.2)⟩
   obtain⟨ch,y,hx,bT,ca⟩:=bc;subst hx;have cl:wr.cell? ⟨u,0,none⟩=some (.pointer (some ⟨sb,0,none⟩)):=b.cell (.inl (.inr (.inl rfl))) (Y HB).cell;have bi:sb<wr.heap.size:=ak q;have cd:u<wr.heap.size:=ah (ak (Y HB)) b.1;have B:=Z (show(a.take o++[a[o]])<+:a/\a.take o++[a[o]]=a.take (o+1)by
    rw[<-aq j];exact⟨List.take_prefix _ _,rfl⟩)
   have p:=Z w;have K:=Z q;have bt:=Z b;have L:=Z x;clear w q b hg x;generalize a[o]=pj at*;obtain⟨z,A⟩:=pj;simp only at bT ca;have HQ:=Z (show∀s,I (λk=>k=sb) (wr.alloc (.cells #[.string z,.string A] 68)) s->cs (a.take o) H s/\s.cell? ⟨wr.heap.size,0,none⟩=some (.string z)/\s.cell? ⟨wr.heap.size,1,none⟩=some (.string A)/\I (λk=>k=sb) wr s fromλs c=>by
    have al:I (λ_=>False) wr (wr.alloc (.cells #[.string z,.string A] 68)):=(I.refl (λ_=>False) wr).alloc _;have ad:(wr.alloc (.cells #[.string z,.string A] 68)).heap[wr.heap.size]?=some (.cells #[.string z,.string A] 68 (0,0)):=az _ rfl;have X:=(c.block _ (ak ad) (by omega)).trans ad;refine⟨(Y ac) _ _ _ _ _ ((Y ac) _ _ _ _ _ (Y p) al (λ_ G=>G.elim)) c (λk d=>⟨λG=>?_,.inl d⟩),by rw[aj X];rfl,by rw[aj X];rfl,(al.mono (T:=λk=>k=sb) (λ_ G=>G.elim)).trans c (λk d=>.inl d)⟩;have:=((Y W) _ _ _ (Y p) k G).1;omega)
   have an:bX (wr.alloc (.cells #[.string z,.string A] 68)) sb cc 0:=(((I.refl (λ_=>False) wr).alloc (.cells #[.string z,.string A] 68)).block sb bi id).trans (Y K);have r:=BZ _ sb cc an;rw[bb]at r;clear an;cases R with
   |true=>
    have h0:o=0:=(Y L) rfl;have X:=Z h0;clear h0;gi_wp2_with(refine⟨trivial,(λG=>(by cases G)),?_⟩;gi_at_call 95;refine(dM.2 r).mono ?_;rintro cv s⟨rfl,h,c⟩;obtain⟨g,k0,k1,e⟩:=(Y HQ) s c;have N:=Z g;have U:=Z h;clear g h e c)
    refine⟨λ_ ad=>(by cases ad),?_⟩;gi_wp2;refine bO (jE rfl _ _ _) rfl ?_;refine⟨⟨_,rfl⟩,.inl ⟨H,?_,Y U⟩⟩;rw[<-Y t];have:=Y N;rw[Y X]at this;exact this
   |false=>
    have bd:a=l:=Y t;have bg:(a.take o++[(z,A)])<+:l:=(Y B).1.trans (by rw[bd];exact qw _);have X:=Z bg;clear bg bd;gi_wp2_with(refine⟨trivial,(λG=>(by cases G)),?_⟩;gi_at_call 95;refine(dM.2 r).mono ?_;rintro cv s⟨rfl,h,c⟩;obtain⟨g,k0,k1,e⟩:=(Y HQ) s c;obtain⟨fn,ce,bl,body,hy,hR⟩:=(Y HY) (a.take o) (z,A) H s (Y X) g h;unfold Hw at hy;simp only at hy;have br:=Z hR;have N:=Z g;have U:=Z h;have bv:=Z e;clear g h e c hR)
    refine⟨(λG=>(by cases G)),(Y br).mono ?_⟩;rintro cv W3(⟨rfl,al,B3,ao,ba,ad⟩|⟨rfl,hx⟩)
    ·have bq:=Z ao;have bx:=Z ba;have bo:=Z ad;have bp:=Z al;clear ao ba ad al;gi_wp2;go_roundw;case rel=>
      have b:=Y bt;have e:=Y bv;have cb:=e.size;have bh:=b.1;refine⟨o+1,B3,by go_num,j,(λG=>(by cases G)),(by rw[<-(Y B).2];exact Y bq),Y bp,λk d cj=>?_,?_⟩
      ·have:=((Y f) k d).1;rcases(Y bo) k cj with cj|cj
       ·exact(Y C) k d cj
       ·omega
      ·refine b.trans ((e.same (aB bf bh) (λk d=>⟨by have:=((Y f) k d).1;omega,((Y f) k d).2⟩) (λk d _=>d)).trans ?_);exact(Y bx).same (aB bf (aB bh cb)) (λk d=>⟨by have:=((Y f) k d).1;omega,(Y C) k d⟩) (λk d a=>by have:=((Y W) _ _ _ (Y N) k d).1;omega)
     case measure=>simp[intOf];omega
    ·have HX:=Z hx;clear hx;gi_wp2;refine bO (jE rfl _ _ _) rfl ?_;exact⟨⟨_,rfl⟩,.inr ⟨_,Y HX⟩⟩
  ·have e1:¬(o:Int)<(a.length:Int):=by omega
   have c:o=a.length:=by omega
   have p:=Z w;have K:=Z q;have L:=Z x;clear w q b x;gi_wp2;refine bodyPost_end (jE rfl _ _ _) rfl ?_;refine⟨⟨_,rfl⟩,.inl ⟨⟨H,?_⟩,Y K⟩⟩;cases R with
   |true=>
    have h0:=(Y L) rfl;rw[<-Y t];have:=Y p;rw[h0]at this;exact this
   |false=>
    have:=Y p;rw[bP (by omega)]at this;rw[<-Y t];exact this
structure EV(w w':J)(sb:Nat)(v:M)(ps:List KV)(bt bs:Nat):Prop where
 val:v=.func (.func 94) #[] #[.pointer (some ⟨bt,0,none⟩),.pointer (some ⟨bs,0,none⟩)]
 row:∃u,dY w' bt u 37/\vK w w' u ps
 ptr:dY w' bs (.pointer (some ⟨sb,0,none⟩)) 35
 ge:w.heap.size<=bt/\w.heap.size<=bs
def MI(w:J)(sb:Nat)(q o:aa)(m:List KV)(P:J->Prop)(p:∀W,I (λ_=>False) w W->w.heap.size<W.heap.size->Calls prog 93 #[.pointer (some ⟨sb,0,none⟩),.string q,.string o] W λs b=>∃r,s=.returned r/\vK W b r m/\W.heap[w.heap.size]?=b.heap[w.heap.size]?/\P b)(n:∀W z,P W->P (W.alloc z)):Calls prog 60 #[.pointer (some ⟨sb,0,none⟩),.string q,.string o] w λs b=>∃y v u,s=.returned y/\EV w b sb y m v u/\P b:=by
 have g:I (λ_=>False) w (w.alloc (.cells #[.pointer (some ⟨sb,0,none⟩)] 35)):=(I.refl (λ_=>False) w).alloc _;have h:=p _ g (by simp);have f:dY (w.alloc (.cells #[.pointer (some ⟨sb,0,none⟩)] 35)) w.heap.size (.pointer (some ⟨sb,0,none⟩)) 35:=az _ rfl;have i:=Z f;have t:=Z n;clear p n g f;go_enter func60,ntmps60
 go_wp2_with fail
 refine h.mono ?_;rintro s B⟨A,rfl,a,e,d⟩;obtain⟨x,c1,l⟩:=aC a;subst l;have j:=Z a;have k:=Z d;have c:=Z (e.symm.trans (Y i));clear a e d h;go_wp2;go_ret;refine⟨_,_,_,rfl,⟨rfl,⟨_,az _ rfl,?_⟩,?_,?_⟩,(Y t) _ _ (Y k)⟩
 ·have:=Y j;unfold vK at this|-;exact gI (aM this (.cells #[.slice x m.length c1] 37)) (by simp)
 ·exact dY.alloc (Y c) _
 ·have:=ak (Y c);omega
def zN(w:J)(sb:Nat)(s:SR)(f c:aa)(o:bX w sb s 0)(m:s.closed=true):Calls prog 60 #[.pointer (some ⟨sb,0,none⟩),.string f,.string c] w λn a=>∃v j i,n=.returned v/\EV w a sb v [] j i/\bX a sb s 0/\I (λk=>k=sb) w a:=by
 have e:=ak o;refine MI w sb f c [] (λa=>bX a sb s 0/\I (λk=>k=sb) w a) (λW g d=>?_) (λW u b=>⟨(dL _ (ak b.1)).trans b.1,b.2.alloc u⟩);refine(Bv W sb s f c ((g.block sb e id).trans o) m).mono ?_;rintro n a⟨rfl,l,h⟩;exact⟨_,rfl,bC _ _ _ _,(h.block _ d (by omega)).symm,l,(g.mono (T:=λk=>k=sb) (λ_ c=>c.elim)).trans h (λ_ c=>.inl c)⟩
def EO(w:J)(sb:Nat)(s:SR)(K:DK)(y:List E)(t u v x:List ar)(C:Nat)(j i:aa)(G:bX w sb s 0)(p:ST w sb s K y t u v x C)(B:s.closed=false):Calls prog 60 #[.pointer (some ⟨sb,0,none⟩),.string j,.string i] w λF h=>∃H A z,F=.returned H/\EV w h sb H (oU j i 0 (y::bZ t u v x)) A z/\tr w h sb s K y t u v x C:=by
 have g:=ak G;have f:∀{w W:J}{K:DK},bR w s.aH K->I (λ_=>False) w W->eN w W s.aH sb K K:=λc d=>⟨c.ay d (λ_ _=>id),d.mono (λ_ r=>r.elim),λ_ r=>.inl r⟩;refine MI w sb j i _ (λh=>tr w h sb s K y t u v x C) (λW d o=>?_) ?_
 ·have c:=f p.aH d;have q:=p.eA g c rfl;refine(Fi W sb s K y t u v x C j i ((d.block sb g id).trans G) q B).mono ?_;rintro F h⟨L,rfl,D,k,a,l,m,n,e,b⟩;refine⟨_,rfl,D,(a.ay.block _ o ?_).symm,k,c.trans a,l,m,n,e,b⟩;rintro(r|r)
  ·have:=p.aH.lt _ r;omega
  ·omega
 ·rintro W D⟨k,c,l,m,n,e,b⟩;have q:I (λ_=>False) W (W.alloc D):=(I.refl (λ_=>False) W).alloc D;have a:=f b.aH q;exact⟨k,c.trans a,l,m,n,(q.block sb (ak e) id).trans e,b.eA (ak e) a rfl⟩
end
section
open Go.Shelf
attribute [local go_sem] Oper.semAt_some
def CA(a:J)(base:Nat)(c:Nat->Prop)(limit:Int)(b:List KV)(B:Nat->Prop)(W:J):Prop:=Acc c a [(a.heap.size,.int .i64 limit,3)] (a.heap.size+1) 37 68 2 base b.length (eQ b) B W
def wX(w:J)(sb:Nat)(cv:SR)(lo hi:aa)(limit:Int)(R:List KV)(ex:J->Prop)(A:Nat->Prop)(cn:0<limit)(em:sb<w.heap.size)(hF:∀k,A k->k<w.heap.size)(hA:∀W,I (λ_=>False) w W->W.heap.size=w.heap.size+2->Calls prog 60 #[.pointer (some ⟨sb,0,none⟩),.string lo,.string hi] W λfs w'=>∃cE bt bs,fs=.returned cE/\EV W w' sb cE R bt bs/\I A W w'/\ex w')(eb:A sb)(ca:∀W,ex W->bX W sb cv 0)(cb:∀W W',ex W->I (λk=>k=sb\/k=w.heap.size\/k=w.heap.size+1) W W'->bX W' sb cv 0->ex W')(ck:cv.closed=true->R=[])(en:R.length<=1000000000):Calls prog 34 #[.pointer (some ⟨sb,0,none⟩),.string lo,.string hi,.int .i64 limit] w λfs w'=>∃v',fs=.returned v'/\vK w w' v' (R.take limit.toNat)/\ex w':=by
 obtain⟨i0,ej,et,eu,ev⟩:=bK tf;have cm:(if cv.closed=true then []else R)=R:=by
  split
  ·rename_i ey;rw[ck ey]
  ·rfl
 have e:I (λ_=>False) w ((w.alloc (.cells #[.int .i64 limit] 3)).alloc (.cells #[.slice none 0 0] 37)):=((I.refl (λ_=>False) w).alloc _).alloc _;have O:dY ((w.alloc (.cells #[.int .i64 limit] 3)).alloc (.cells #[.slice none 0 0] 37)) w.heap.size (.int .i64 limit) 3:=dY.alloc (az _ rfl) _;have P:dY ((w.alloc (.cells #[.int .i64 limit] 3)).alloc (.cells #[.slice none 0 0] 37)) (w.heap.size+1) (.slice none 0 0) 37:=az _ (by simp);have K:((w.alloc (.cells #[.int .i64 limit] 3)).alloc (.cells #[.slice none 0 0] 37)).heap.size=w.heap.size+2:=by simp
 have cd:=hA _ e K;have e0:¬limit<=0:=by omega
 obtain⟨cB,D⟩:∃cB,R.take limit.toNat=cB:=⟨_,rfl⟩;rw[D];have al:=Z D;have dc:=Z cm;have HX:=Z (bj e (bj O (bj P K)));have dn:=Z ca;have bn:=Z cb;have HF:=Z hF;clear D cm e O P K hA ca cb ck hF;refine(dM (n:=3)).1 ?_;refine callsIn_of_wp_marks func34 rfl trivial ?_ rfl;simp only[ntmps34,gC,aE,cH,Nat.reduceAdd,Nat.reduceSub,fq,fp,gD,fI,cL,dI];gi_wp2_with(refine⟨trivial,?_⟩;gi_at_call 60;refine(dM.2 cd).mono ?_;rintro fs f⟨v9,bt,bs,rfl,ei,q,bT⟩;obtain⟨es,⟨u9,ch,E⟩,ce,cl⟩:=ei;subst es;have bk:=Z ch;have cT:=Z E;have bi:=Z ce;have db:=Z cl;have dv:=Z q;have bb:=Z bT;clear ch E ce cl q bT cd)
 obtain⟨eg,O,P,K⟩:=Y HX;have q:=Y dv;have hF:=Y HF;have gb:=q.size;obtain⟨fz,fx⟩:=Y db;have eq:I A w f:=(eg.mono (T:=A) (λ_ d=>d.elim)).trans q (λ_ d=>.inl d);have ed:dY f w.heap.size (.int .i64 limit) 3:=(q.block _ (ak O) (λd=>by have:=hF _ d;omega)).trans O;have ee:dY f (w.heap.size+1) (.slice none 0 0) 37:=(q.block _ (ak P) (λd=>by have:=hF _ d;omega)).trans P;have ea:CA w f.heap.size A limit [] (λk=>k=w.heap.size\/k=w.heap.size+1) f:=by
  refine⟨λgc hp=>?_,⟨.slice none 0 0,ee,bC _ _ _ _,λk=>?_⟩,λgc hp=>?_,⟨by omega,by omega⟩,eq⟩
  ·rw[bE]at hp;rw[hp];exact ed
  ·simp[Value.ownBlock];omega
  ·rw[bE]at hp;rw[hp];exact⟨ai _,by simp;omega,by simp⟩
 have E:=Y cT;have ad:∀k,u9.ownBlock=some k->w.heap.size+2<=k/\k<f.heap.size:=λk b=>by
  have:=E.lt k b;rw[K]at this;exact this
 have F:=Bm w.heap.size 2 bt bs sb cv u9 R f (Y bk) (Y bi) (cW E) (by omega) (by omega) (λk b=>⟨(ad k b).2,by have:=(ad k b).1;omega⟩) em (by omega) en;rw[Y dc]at F;refine wI (m:=3) (V:=JH sb cv) (n0:=w.heap.size) (gf:=94) (lb:=#[.pointer (some ⟨bt,0,none⟩),.pointer (some ⟨bs,0,none⟩)]) (l:=R) (S:=λk=>k=bt\/k=bs\/u9.ownBlock=some k) ?geval (enters_of func94 (by kernel_rfl) rfl) (λ_=>rfl) F ((Y dn) _ (Y bb)) (by omega) ?slt (λa ba W=>CA w f.heap.size A limit a ba W/\I (λk=>k=sb\/k=w.heap.size\/k=w.heap.size+1) f W/\(a.length:Int)<limit) (λd _ ba W=>d=.exit 0/\CA w f.heap.size A limit cB ba W/\I (λk=>k=sb\/k=w.heap.size\/k=w.heap.size+1) f W/\bX W sb cv 0) (λk=>k=w.heap.size\/k=w.heap.size+1) ⟨ea,I.refl _ _,by simpa using cn⟩ ?sb ?lt ?st ?xst ?body ?done ?stop;case geval=>rfl
 case slt=>
  rintro k(d|d|d)
  ·rw[d];exact ak (Y bk)
  ·rw[d];exact ak (Y bi)
  ·exact(ad k d).2
 case sb=>
  rintro k(d|d|d)bh
  ·omega
  ·omega
  ·have:=(ad k d).1;omega
 case lt=>
  rintro a ba W⟨ey,_⟩k b;exact ey.lt k b
 case st=>
  rintro a ba W W' T⟨ey,p,s⟩ht hT;refine⟨ey.stays ht (λk b=>⟨(hT k b).1,?_⟩),p.trans ht (λk b=>?_),s⟩
  ·rcases(hT k b).2 with d|d
   ·left;rw[show k=sb from d];exact eb
   ·exact .inr (by omega)
  ·rcases(hT k b).2 with d|d
   ·exact .inl (.inl d)
   ·exact .inr d
 case xst=>
  rintro d a ba W W' T⟨h1,s,t,p⟩ht hT;exact⟨h1,s.stays ht (λk b=>⟨(hT k b).1,.inr (by have:=(hT k b).2;omega)⟩),t.trans ht (λk b=>.inr (hT k b).2),(ht.block sb (ak p) (λd=>by have:=(hT _ d).2;omega)).trans p⟩
 case body=>
  rintro lr a ge ba W fL br fl H⟨z,h,ek⟩g;obtain⟨xk,xv⟩:=ge;have fk:a.length+1<=1000000000:=by
   have h1:=H.length_le;simp at h1;omega
  have bl:=Z H;have HC:=Z z;have x:=Z h;have j:=Z g;clear z h g H;unfold Hw;simp only;gi_wp2;refine⟨I.refl _ _,λQ e=>?_⟩;have U:CA w f.heap.size A limit a ba Q:=(Y HC).stays e (λk b=>by subst b;exact⟨br,.inr (by omega)⟩);obtain⟨cE,L,c,i⟩:=U.row;have ax:=U.fix (w.heap.size,.int .i64 limit,3) (by simp);have cj:Q.cell? ⟨w.heap.size+1,0,none⟩=some cE:=L.cell;have fv:Q.frozen? ⟨w.heap.size+1,0,none⟩=false:=L.free;have fn:w.heap.size+1<Q.heap.size:=ak L;obtain⟨C,B,N⟩:=aC c;have ef:f.heap.size<=Q.heap.size:=by have:=(Y x).size;have:=e.size;omega
  have bo:=Z ax;have cM:=Z U;have HV:=Z L;have o:=Z c;have y:=Z i;have ds:=Z e;clear U L c i e ax;subst N;by_cases hq:(a.length:Int)+1=limit;case' pos=>have el:((a.length:Int)+1==limit)=true:=by simpa using hq
  case' neg=>have el:((a.length:Int)+1==limit)=false:=by simpa using hq
  all_goals
   gi_wp2_with(first
    |(gi_at_builtin;refine fg _ rfl (.tmp 21) (.tmp 25) 37 rfl f.heap.size 68 i0 (.agg #[.string ⟨#[]⟩,.string ⟨#[]⟩]) 2 32 underlying37 ej et eu ev rfl (by decide) (.slice C a.length B) a.length (eQ a) rfl (aM (Y o) (.cells #[.string xk,.string xv] 68)) ⟨Q.heap.size,0,none⟩ 1 1 (lj (xk,xv)) rfl rfl (Ge _ (xk,xv) _) (OK _) (by omega) (by omega) (by simp;omega) ?_;intro v2 w3 p v;obtain⟨t,s,rfl⟩:=aC p;have G:∀fu,fu<=w.heap.size+1->¬(Value.slice C a.length B).ownBlock=some fu:=(λfu hb d=>by have:=((Y o).lt _ d).1;omega);have u:dY w3 (w.heap.size+1) (.slice C a.length B) 37:=(v.grown.block _ (ak ((Y HV).alloc (.cells #[.string xk,.string xv] 68))) (λd=>G _ (ai _) d.symm)).trans ((Y HV).alloc _);have an:dY w3 w.heap.size (.int .i64 limit) 3:=(v.grown.block _ (ak ((Y bo).alloc (.cells #[.string xk,.string xv] 68))) (λd=>G _ (by omega) d.symm)).trans ((Y bo).alloc _);have fb:=u.cell;have fe:=u.free;have fd:=an.cell;have fr:=ak u;clear u an G;have dk:=Z p;have dx:=Z v;clear p v))
   have c:=Y o;have cs:=Y dx;have eo:I (λk=>(Value.slice C a.length B).ownBlock=some k) Q w3:=((I.refl (λk=>(Value.slice C a.length B).ownBlock=some k) Q).alloc (.cells #[.string xk,.string xv] 68)).trans (I.bz (S:=λk=>(Value.slice C a.length B).ownBlock=some k) cs.grown (λk b=>.inl b)) (λk b=>.inl b);have ec:(Value.slice t (a.length+1) s).ownBlock=(Value.slice C a.length B).ownBlock\/∃dT,(Value.slice t (a.length+1) s).ownBlock=some dT/\Q.heap.size<=dT:=by
    rcases cs.sr with bh|⟨dT,bh,hg⟩
    ·exact .inl bh
    ·exact .inr ⟨dT,bh,by simp at hg;omega⟩
   obtain⟨B',q1,q2,q3⟩:=(Y cM).more (Y HV) (Y y) c eo ec (Y dk);have bv:CA w f.heap.size A limit (a++[(xk,xv)]) B' (w3.setCell ⟨w.heap.size+1,0,none⟩ (.slice t (a.length+1) s)):=by
    unfold CA;rw[zo,ag];exact q1
   have e:=Y ds;have ac:I (λk=>ba k\/k=lr) W (w3.setCell ⟨w.heap.size+1,0,none⟩ (.slice t (a.length+1) s)):=(e.mono (T:=λk=>ba k\/k=lr) (λk b=>.inl (.inr b))).trans q2 (λk b=>.inl (.inl b));have bq:∀k,ba k->k=w.heap.size\/k=w.heap.size+1\/f.heap.size<=k:=λk b=>by
    rcases((Y y) k).1 b with⟨gc,hp,d⟩|d|d
    ·rw[bE]at hp;rw[hp]at d;exact .inl d.symm
    ·exact .inr (.inl d)
    ·exact .inr (.inr (c.lt k d).1)
   have cc:I (λk=>k=sb\/k=w.heap.size\/k=w.heap.size+1) f (w3.setCell ⟨w.heap.size+1,0,none⟩ (.slice t (a.length+1) s)):=(Y x).trans ac (λk b=>by
    rcases b with d|d
    ·rcases bq k d with bh|bh|bh
     ·exact .inl (.inr (.inl bh))
     ·exact .inl (.inr (.inr bh))
     ·exact .inr bh
    ·exact .inr (by omega))
   have cp:∀k,(ba k\/k=lr)->k≠sb:=λk b d=>by
    rcases b with bh|bh
    ·rcases bq k bh with dT|dT|dT<;>omega
    ·omega
   have bx:bX (w3.setCell ⟨w.heap.size+1,0,none⟩ (.slice t (a.length+1) s)) sb cv 0:=(JH sb cv).dF (Y j) ac (λk b d=>cp k b d);have ao:(w3.setCell ⟨w.heap.size+1,0,none⟩ (.slice t (a.length+1) s)).heap[lr]?=Q.heap[lr]?:=q2.block lr (by have:=e.size;omega) br;have bp:∀k,B' k->ba k\/W.heap.size<=k:=λk b=>(q3 k b).imp_right (λd=>by have:=e.size;omega)
  ·exact⟨bx,B',⟨bv,cc,by simp;omega⟩,ac,ao,bp⟩
  ·refine⟨B',⟨rfl,?_,cc,bx⟩,ac,ao,bp⟩;have X:cB=a++[(xk,xv)]:=by
    obtain⟨gi,hr⟩:=Y bl;rw[<-Y al,<-hr,fQ (by simp;omega),bP (by simp;omega)]
   rw[X];exact bv
 case done=>
  rintro cx ba W bd⟨z,h,ek⟩bc g hK;have X:cB=R:=by rw[<-Y al];exact bP (by omega)
  have z:CA w f.heap.size A limit cB ba W:=by rw[X];exact z
  clear X;obtain⟨cE,L,c,i⟩:=z.row;have cj:W.cell? ⟨w.heap.size+1,0,none⟩=some cE:=L.cell;obtain⟨C,B,N⟩:=aC c;have HC:=Z z;have o:=Z c;have y:=Z i;have j:=Z g;have HK:=Z hK;have x:=Z h;clear z L c i g hK h;subst N;gi_wp2;have hB:=Y y;have n3:¬(Value.slice C cB.length B).ownBlock=some cx:=λd=>bc ((hB _).2 (.inr (.inr d)));have r:=dp W cx (.deferred none);have bf:cx≠sb:=by omega
  have bg:bX (W.putObj cx (.deferred none)) sb cv 0:=(r.block sb (ak (Y j)) (λd=>bf d.symm)).trans (Y j);refine⟨by simp,.inl ⟨_,_,rfl,run_takeDeferred (Y HK),?_⟩⟩;refine⟨_,iL rfl _ _ _,_,rfl,?_,(Y bn) _ _ (Y bb) ((Y x).trans r (λk b=>by subst b;exact .inr bd)) bg⟩;have c:=Y o;exact gI (r.own c (λk b d=>by subst d;exact n3 b)) (by omega)
 case stop=>
  rintro cx d a ba W bd⟨rfl,z,h,g⟩bc hK;obtain⟨cE,L,c,i⟩:=z.row;have cj:W.cell? ⟨w.heap.size+1,0,none⟩=some cE:=L.cell;obtain⟨C,B,N⟩:=aC c;have HC:=Z z;have o:=Z c;have y:=Z i;have j:=Z g;have HK:=Z hK;have x:=Z h;clear z L c i g hK h;subst N;gi_wp2;have hB:=Y y;have n3:¬(Value.slice C cB.length B).ownBlock=some cx:=λd=>bc ((hB _).2 (.inr (.inr d)));have r:=dp W cx (.deferred none);have bf:cx≠sb:=by omega
  have bg:bX (W.putObj cx (.deferred none)) sb cv 0:=(r.block sb (ak (Y j)) (λd=>bf d.symm)).trans (Y j);refine⟨by simp,.inl ⟨_,_,rfl,run_takeDeferred (Y HK),?_⟩⟩;refine⟨_,iL rfl _ _ _,_,rfl,?_,(Y bn) _ _ (Y bb) ((Y x).trans r (λk b=>by subst b;exact .inr bd)) bg⟩;have c:=Y o;exact gI (r.own c (λk b d=>by subst d;exact n3 b)) (by omega)
end
def Af(w:J)(sb:Nat)(d c:aa)(limit:Int)(g:limit<=0):Calls prog 34 #[.pointer (some ⟨sb,0,none⟩),.string d,.string c,.int .i64 limit] w λf e=>f=.returned (.slice none 0 0)/\I (λ_=>False) w e:=by
 have a:I (λ_=>False) w ((w.alloc (.cells #[.int .i64 limit] 3)).alloc (.cells #[.slice none 0 0] 37)):=((I.refl (λ_=>False) w).alloc _).alloc _;have b:=Z a;clear a;go_enter func34,ntmps34
 go_wp2;go_ret;exact⟨rfl,Y b⟩
def xM(w:J)(sb:Nat)(s:SR)(h g:aa)(limit:Int)(q:0<limit)(j:bX w sb s 0)(o:s.closed=true):Calls prog 34 #[.pointer (some ⟨sb,0,none⟩),.string h,.string g,.int .i64 limit] w λn a=>∃e,n=.returned e/\vK w a e []/\bX a sb s 0/\I (λk=>k=sb) w a:=by
 have d:=ak j;refine(wX w sb s h g limit [] (λa=>bX a sb s 0/\I (λk=>k=sb) w a) (λk=>k=sb) q d (λk r=>by omega) (λW i _=>?_) rfl (λ_ j=>j.1) ?_ (λ_=>rfl) (by simp)).mono ?_
 ·refine(zN W sb s h g ((i.block sb d id).trans j) o).mono ?_;rintro n a⟨v,m,l,rfl,p,c,b⟩;exact⟨v,m,l,rfl,p,b,c,(i.mono (T:=λk=>k=sb) (λ_ f=>f.elim)).trans b (λ_ f=>.inl f)⟩
 ·rintro W m⟨_,l⟩b c;refine⟨c,l.trans b ?_⟩;rintro k(f|f|f)
  ·exact .inl f
  ·exact .inr (by omega)
  ·exact .inr (by omega)
 ·rintro n a⟨e,rfl,l,c,b⟩;exact⟨e,rfl,by simpa using l,c,b⟩
def Ae(w:J)(sb:Nat)(s:SR)(K:DK)(B:List E)(u v x y:List ar)(D:Nat)(k j:aa)(limit:Int)(H:0<limit)(C:bX w sb s 0)(d:ST w sb s K B u v x y D)(z:s.closed=false)(t:(oU k j 0 (B::bZ u v x y)).length<=1000000000):Calls prog 34 #[.pointer (some ⟨sb,0,none⟩),.string k,.string j,.int .i64 limit] w λF e=>∃m,F=.returned m/\vK w e m ((oU k j 0 (B::bZ u v x y)).take limit.toNat)/\tr w e sb s K B u v x y D:=by
 have a:=ak C;refine(wX w sb s k j limit _ (λe=>∃b,eN w e s.aH sb K b/\(∀l,b.aS s.aH l->K.aS s.aH l)/\b.files=K.files/\b.cY=K.cY/\bX e sb s 0) (λl=>K.aS s.aH l\/l=sb) H a ?_ (λW p _=>?_) (.inr rfl) (λ_⟨_,_,_,_,_,C⟩=>C) ?_ (λq=>by rw[z]at q;cases q) t).mono ?_
 ·rintro l(q|q)
  ·exact d.aH.lt _ q
  ·omega
 ·have c:eN w W s.aH sb K K:=⟨d.aH.ay p (λ_ _=>id),p.mono (λ_ q=>q.elim),λ_ q=>.inl q⟩;refine(EO W sb s K B u v x y D k j ((p.block sb a id).trans C) (d.eA a c rfl) z).mono ?_;rintro F e⟨G,r,o,rfl,A,b,i,f,g,n,h,_⟩;exact⟨G,r,o,rfl,A,i.ay,b,c.trans i,n,f,g,h⟩
 ·rintro W L⟨b,c,r,f,g,G⟩A h;have i:=c.sb d.rf a;refine⟨b,⟨c.ok.ay A ?_,c.ay.trans A ?_,c.aS⟩,r,f,g,h⟩
  ·rintro l q(o|o|o)
   ·subst o;exact i q
   ·have:=d.aH.lt _ (r l q);omega
   ·have:=d.aH.lt _ (r l q);omega
  ·rintro l(o|o|o)
   ·exact .inl (.inr o)
   ·exact .inr (by omega)
   ·exact .inr (by omega)
 ·rintro F e⟨m,rfl,i,b,c,n,f,g,h⟩;exact⟨m,rfl,i,b,c,f,g,n,h,d.eA a c (by rw[f])⟩
def GA(b:aa)(limit:Int)(l a:List KV):a<+:pC b limit a l:=by
 induction l generalizing a with
 |nil=>exact qw _
 |cons p r c=>
  rw[pC];split
  ·exact qw _
  ·split
   ·exact List.prefix_append _ _
   ·exact(List.prefix_append _ _).trans (c _)
def Mn(c:aa)(limit:Int)(h:0<limit)(l a:List KV)(g:(a.length:Int)<limit):(pC c 0 a l).take limit.toNat=pC c limit a l:=by
 induction l generalizing a with
 |nil=>
  show a.take limit.toNat=a;exact bP (by omega)
 |cons p r f=>
  rw[pC,pC];split
  ·exact bP (by omega)
  ·have d:((a.length:Int)+1==0)=false:=by simp;omega
   rw[d];simp only[ic,ji];split
   ·rename_i b;have b:(a.length:Int)+1=limit:=by simpa using b
    obtain⟨t,e⟩:=GA c 0 r (a++[p]);rw[<-e,fQ (by simp;omega),bP (by simp;omega)]
   ·rename_i b;have b:¬(a.length:Int)+1=limit:=by simpa using b
    exact f _ (by simp;omega)
def It(b a:aa)(limit:Int)(h:0<limit)(c:List (List E)):(oU b a 0 c).take limit.toNat=oU b a limit c:=Mn a limit h _ _ (by simpa using h)
def NG(b:aa)(limit:Int)(l a:List KV):(pC b limit a l).length<=a.length+l.length:=by
 induction l generalizing a with
 |nil=>simp[pC]
 |cons p r c=>
  rw[pC];split
  ·simp
  ·split
   ·simp
   ·have:=c (a++[p]);simp at this|-;omega
def Pq(b c:aa)(limit:Int)(a:List (List E)):(oU b c limit a).length<=a.flatten.length:=by
 have d:=NG c limit (((dt b a).filter (λe=>!e.del)).map tR) [];have f:=gY (λe:E=>!e.del) (dt b a);have g:=lu b a;unfold oU;simp only[cH,bW]at d;omega
end Go.Proofs.YtophdnlmpfmeiaaGreatDoor
