import Derived.Test.YtojeeoclojldpaaGreatDoorC11
import Derived.Test.YtojeeoclojldpaaGreatDoorC17
open _root_ renaming List.length→y,Option.some→H,Array.size→z,Go.World.heap→G,Go.World.cell?→aT,Go.World.alloc→ct,Nat→M,List→cr,Go.Calls→cy,Go.Proofs.Tryz.prog→bG
namespace Go.Proofs.YtojeeoclojldpaaGreatDoor
open ChangeShapes WideShapes RowKit Proofs.Tryz
set_option maxHeartbeats 16000000
set_option linter.all false
set_option maxRecDepth 100000
variable{a:I}{b:M}{j:DK}
def UR(h:cK a b j)(cu:∀f∈j.files,y f.bytes<=1099511627776)(L:((vw j.files).map (·.1)).Nodup):cy bG 24 #[.pointer<|H ⟨b,0,none⟩] a λck w'=>∃g K',ck=.returned (.pointer<|H ⟨g,0,none⟩)/\cK w' g K'/\(vw K'.files).Perm (vw j.files)/\K'.eM=[]/\(∀k,K'.bj g k->z (G a)<=k)/\Y (λ_=>False) a w':=by
 have em:aT a ⟨b,0,none⟩=H (.map<|H j.nb):=by rw[bN h.iG];rfl
 have en:aT a ⟨b,3,none⟩=H (.int .i64 1099511627776):=by rw[bN h.iG];rfl
 have co:=Ch a;obtain⟨HD,HB,HN⟩:=dC h cu L;clear h cu L;go_in
 go_wp2_with fail
 apply co.mono;rintro ck w1⟨rfl,r,cs⟩;have al:Y (λ_=>False) a w1:=Y.aW cs;have ac:=(ae HD).aw al<|λ_ _=>id;have fz:aT w1 ⟨b,0,none⟩=H (.map<|H j.nb):=by rw[bN ac.iG];rfl
 obtain⟨g,bk⟩:∃g,z (G a)+2=g:=⟨_,rfl⟩;rw[bk]at r|-;obtain⟨K1,D⟩:∃K1,rr (z<|G a)=K1:=⟨_,rfl⟩;rw[D]at r;have dm:K1.eM=[]:=by rw[<-D];rfl
 have cx:K1.files=[]:=by rw[<-D];rfl
 have bb:∀k,K1.bj g k->z (G a)<=k:=by intro k o;rw[<-D,<-bk]at o;rcases o with d|d|d|d|⟨ha,hx,d⟩|⟨hb,hg,d⟩;omega;have:k=z (G a):=d;omega;have:k=z (G a)+1:=d;omega;cases d;cases hx;cases hg
 obtain⟨cc,gi,x,ch,av,ei,ed⟩:=ww ac.now ac r al bb dm cx;have fk:=al.size;clear co cs al ac r bb dm cx D bk em en
 go_wp2_with(first
  |(at_range;refine ui _ rfl _ 70 rfl 9 125 underlying70 j.nb _ rfl (ae cc) ?_;intro w0 bc cT fb;have bx:=U bc;have B:=U cT;clear bc cT))
 go_frame
 obtain⟨rb,dT⟩:∃rb,z (G w1)=rb:=⟨_,rfl⟩;rw[dT]at bx|-;have gc:z (G a)<=rb:=by omega
 obtain⟨br,ek,bv⟩:=dC ((ae x).aw (Y.dN (S:=λ_=>False) (ae B)<|by simp)<|λ_ _=>id) ((ae ch).ci<|Y.dN (S:=λ_=>False) (ae B)<|by simp) (show∀k,K1.bj g k->z (G a)<=k/\k≠rb fromλk o=>⟨(ae av) k o,by have:=(ae x).lt k o;omega⟩);clear x ch av B fk fb dT;go_loopw [4] (λ_ wr=>∃(fs:cr da)(K':DK),(vw K'.files++vw fs).Perm (vw j.files)/\K'.eM=[]/\cK wr g K'/\(∀k,K'.bj g k->z (G a)<=k/\k≠rb)/\qt wr j.nb rb (j.files.map da.nm) (fs.map da.nm)/\(∀f∈fs,f∈j.files)/\Y (λ_=>False) a wr) (λ_ wr=>wr.rangeLeft j.nb rb)
 (case atStart=>refine⟨j.files,K1,?_,ae ei,ae br,ae bv,ae bx,λ_ d=>d,ae ek⟩;rw[ae ed];exact nj _)
 case round=>
  obtain⟨fs,K',hp,hm,cv,cM,dd,hL,ht⟩:=hrel;obtain⟨ca,HT,HP,bt,m,HL,HM⟩:=ww dd ht hp cv cM hL hm;clear dd ht hp cv cM hL hm;go_wp2_with(first
   |(at_next;refine vE _ rfl _ rfl j.nb rb _ _ rfl (ae ca) ?_ ?_))
  .intro c;obtain rfl:fs=[]:=by simpa using c
   go_wp2;go_ret;refine⟨g,rfl,K',ae bt,?_,ae HM,λk o=>((ae m) k o).1,ae HT⟩;have:=ae HP;simpa[vw]using this
  .intro gA pk pv ge n ec bd db fd gs;obtain⟨gf,f,gg,rfl,rfl,dx,rfl⟩:=Ek ec;simp only[da.nm,oM,gT]at dx;obtain⟨rfl,rfl⟩:=dx;have bq:Y (λk=>k=rb) wr n:=fg db;have V:Y (λ_=>False) a n:=(ae HT).trans bq (λha hx=>.inr<|by omega);have s:=(ae bt).aw bq<|λk o ck=>((ae m) k o).2 ck;have cB:f∈j.files:=(ae HL) f (by simp);have cE:=(ae HD).files f cB;have l:=cE.aw V id<|λ_ _ d=>d;have bl:=Ho (v:=f.data) (bs:=f.bytes) (w:=n.drew) (l.2.1.bytes.of_heap rfl) ((ae HB) f cB)<|λk o=>((aI l.2.1 k o).2:k<z (G n));have ex:=ak l.1;have k0:aT n.drew ⟨g,0,none⟩=H (.map<|H K'.nb):=by rw[bB,bN s.iG];rfl
   have kd:aT n.drew ⟨f.pE,0,none⟩=H f.data:=by rw[bB,bN l.1];rfl
   obtain⟨fv,fu,eq⟩:=aC l.2.1;have bf:=ak s.iG;obtain⟨c,C,A,ee⟩:=gx s V bd l;clear ec bd db fd bq V s cE l;rw[eq]at kd bl;go_wp2_with fail
   rename_i QQ KK cn;refine cJ (λe=>aT e ⟨g,0,none⟩=H (.map<|H K'.nb)/\aT e ⟨f.pE,0,none⟩=H (.slice fv (y f.bytes) fu)) 17 (by kernel_rfl) ?_;have bh:=And.intro k0 kd;refine dA 0 ?_;iterate 9 (refine wU (v:=?_) bh rfl (by kernel_rfl) (λ_ _ _ h=>h) (Or.inl ⟨by rfl,?_⟩) ?_;rotate_left;(focus(rintro e⟨z0,z1⟩;go_simp;try with_reducible rfl));try simp only[Act.put,Nat.reduceAdd,dZ,gy,fU])
   apply eX;refine dA 10 ?_;iterate 5 (refine wU (v:=?_) bh rfl (by kernel_rfl) (λ_ _ _ h=>h) (Or.inl ⟨by rfl,?_⟩) ?_;rotate_left;(focus(rintro e⟨z0,z1⟩;go_simp;try with_reducible rfl));try simp only[Act.put,Nat.reduceAdd,dZ,gy,fU])
   apply eX;refine aP (i:=9) rfl rfl (by kernel_rfl) ?_;intro K9 cm;go_simp;apply bl.mono;rintro ck q⟨v3,rfl,bp,bi⟩;obtain⟨x3,c3,ff⟩:=aC bp;subst ff;have P:Y (λ_=>False) n q:=(cf (λ_=>False) n).ci<|Y.aW (S:=λ_=>False) bi;have E:aT q ⟨g,0,none⟩=H (.map<|H K'.nb)/\aT q ⟨f.pE,0,none⟩=H (.slice fv (y f.bytes) fu):=⟨P.cell (by rw[bB]at k0;exact k0) id bf,P.cell (by rw[bB]at kd;exact kd) id ex⟩;refine cm _ _ (λ_=>E) ?_;try simp only[Act.put,dZ,gy,fU]
   refine lJ (i:=15) (v:=?_) rfl rfl (by kernel_rfl) (by kernel_rfl) (by kernel_rfl) (by kernel_rfl) (λ_ _ _ h=>h) (Or.inl ⟨by rfl,?_⟩) E ?_;rotate_left
   .rintro e⟨z0,z1⟩;go_simp;try with_reducible rfl
   try simp only[Act.put,dZ,gy,fU]
   refine aP (i:=16) rfl rfl (by kernel_rfl) ?_;intro gk ax;go_simp;have ea:=P.size;refine ax _ _ (λ_=>⟨by rw[fm<|by omega];exact E.1,by rw[fm<|by omega];exact E.2⟩) ?_;try simp only[Act.put,dZ,gy,fU]
   obtain⟨W4,F⟩:∃W4,ct q (.cells #[.slice x3 (y f.bytes) c3,.int .i64<|y f.bytes] 129)=W4:=⟨_,rfl⟩;rw[F];have an:Y (λ_=>False) n W4:=by rw[<-F];exact P.alloc _
   have ds:W4.heap[z<|G q]?=H (.cells #[.slice x3 (y f.bytes) c3,.int .i64<|y f.bytes] 129 (0,0)):=by rw[<-F];exact aD _ rfl
   have dv:W4.ownsRow (z<|G n.drew) 5 1 (.slice x3 (y f.bytes) c3) (y f.bytes) (f.bytes.map<|Value.int .u8):=by rw[<-F];exact aS bp _
   have K:=(ae c).now.aw an id;refine aP (i:=17) rfl rfl (by kernel_rfl) ?_;intro gn ba;try simp only[dj,cD,cO]
   refine Ad (.tmp 24) (.tmp 25) (.tmp 37) 70 rfl 9 125 underlying70 underlying9 K'.nb _ rfl K f.name (.pointer<|H ⟨z<|G q,0,none⟩) rfl rfl ?_;intro W ad bn eb;refine ba _ _ yR ?_;refine dp (by kernel_rfl) ?_ _;show KK _ _;apply cn;have N:f.name∉K'.files.map da.name:=by
    have hp:=(ae HP).map<|λ(ha:ab×eI)=>ha.1;have L:=hp.nodup_iff.2<|ae HN;rw[aM,jq]at L;intro hc;refine L.2.2 f.name ?_ f.name ?_ rfl
    .simpa[vw]using hc
    .simp[vw]
   have t:=LN N;rw[DT t]at ad;have ao:Y (λk=>k=K'.nb) n W:=(an.mono (T:=λk=>k=K'.nb) cG).trans (fg bn)<|λ_ d=>.inl d;have eo:g≠K'.nb:=qW (ae c).now (ae c).iG;have gr:g≠K'.sb:=qW (ae c).safe (ae c).iG;have bo:W.heap[g]?=n.heap[g]?:=ao.block g bf eo;have y0:aT W.drew ⟨g,0,none⟩=H (.map<|H K'.nb):=by rw[bB,bN<|bo.trans (ae c).iG];rfl
   have y1:aT W.drew ⟨g,1,none⟩=H (.map<|H K'.sb):=by rw[bB,bN<|bo.trans (ae c).iG];rfl
   have O:gE W K'.sb K'.sm:=(ae c).safe.aw ao<|λck=>(ae c).ne ck.symm;have dk:=LM (v:=.pointer<|H ⟨z<|G q,0,none⟩) t;have bg:gE W.drew K'.nb (K'.files.map da.nm++[(f.name,.pointer<|H ⟨z<|G q,0,none⟩)]):=ad.aw (cf (λ_=>False) W) id;have u:gE W.drew K'.sb K'.sm:=O.aw (cf (λ_=>False) W) id;obtain⟨j0,es,ev,et,eu⟩:=cz tX;clear et eu;obtain⟨el,cb,X,ej,ef⟩:=jP ao ds dv ad bn;have ce:=U u;obtain⟨fr,eg,fl,fn,cd⟩:=jP an dk t N<|And.intro ea eb;clear dk t N ea eb cn cm ax ba bh E k0 kd bp bi bl K ad bn O u bo ds dv ao an P F;go_wp2_with fail
   have cp:=And.intro y0 (And.intro y1 bg);clear y0 y1 bg;refine cJ (λe=>aT e ⟨g,0,none⟩=H (.map<|H K'.nb)/\aT e ⟨g,1,none⟩=H (.map<|H K'.sb)/\gE e K'.nb (K'.files.map da.nm++[(f.name,.pointer<|H ⟨z<|G q,0,none⟩)])) 11 (by kernel_rfl) ?_;refine dA 0 ?_;iterate 10 (refine wU (v:=?_) cp rfl (by kernel_rfl) (λ_ _ _ h=>h) (Or.inl ⟨by rfl,?_⟩) ?_;rotate_left;(focus(rintro e⟨z0,z1,z2⟩;go_simp;try rfl));simp only[Act.put,Nat.reduceAdd,dZ,gy,fU,dj,cD,cO])
   apply eX;refine lJ (i:=10) (v:=.pointer<|H ⟨z<|G q,0,none⟩) rfl rfl (by kernel_rfl) (by kernel_rfl) (by kernel_rfl) (by kernel_rfl) (λ_ _ _ h=>h) (Or.inl ⟨by rfl,?_⟩) cp ?_
   .rintro e⟨z0,z1,z2⟩;have bm:=tR underlying70 underlying9 es ev z2 f.name;rw[ae eg]at bm;simp only[gU]at bm;clear z0 z1 z2;go_simp;try with_reducible rfl
   simp only[Act.put,dZ,gy,fU,dj,cD,cO];refine aP (i:=11) rfl rfl (by kernel_rfl) ?_;intro gj cl;try simp only[dj,cD,cO]
   refine Ad (.tmp 41) (.tmp 42) (.tmp 48) 70 rfl 9 125 underlying70 underlying9 K'.sb _ rfl (ae ce) f.name (.pointer<|H ⟨z<|G q,0,none⟩) rfl rfl ?_;intro w6 dn dc fe;refine cl _ _ yR ?_;refine dp (by kernel_rfl) ?_ _;have au:Y (λk=>k=K'.sb) W w6:=(cf (λk=>k=K'.sb) W).trans (fg dc)<|λ_ d=>.inl d;have p:Y (λk=>k=K'.nb\/k=K'.sb) n w6:=((ae el).mono (T:=λk=>k=K'.nb\/k=K'.sb)<|λ_ d=>.inl<|.inl d).trans au<|λ_ d=>.inl<|.inr d;have Q:Y (λk=>k=K'.nb\/k=K'.sb) W4 w6:=((Y.dN (S:=λk=>k=K'.nb\/k=K'.sb) (ae ef) (by rintro k⟨⟩;exact .inl<|.inl rfl))).trans au<|λ_ d=>.inl<|.inr d;have w:=U<|show z (G n)<=z (G q)/\True from⟨(ae cd).1,trivial⟩;have fL:=(ae c).lt K'.nb<|.inr<|.inl rfl;have gb:=(ae c).lt K'.sb<|.inr<|.inr<|.inl rfl;have bu:=U<|(ae c).add (f:=⟨f.name,z<|G q,.slice x3 (y f.bytes) c3,f.bytes,y f.bytes⟩) (ae HM) p ((ae ej).aw au<|λck=>(ae c).ne ck) dn ⟨(Q.block _ (ak<|ae cb) (λd=>by have:=(ae w).1;rcases d with d|d<;>omega)).trans<|ae cb,eQ (Q.own (ae X) (λk o d=>by have:=((ae X).lt k o).1;have ck:z (G n.drew)=z (G n):=rfl;rcases d with d|d<;>omega))<|bA _,(ae ee).2.2⟩ (ae w).1<|λk o=>((ae X).lt k o).1;have cj:=U ((ae C).trans p (λk d=>by
    have h1:=((ae m) K'.nb<|.inr<|.inl rfl).1;have h2:=((ae m) K'.sb<|.inr<|.inr<|.inl rfl).1;rcases d with d|d
    .exact .inr<|by omega
    .exact .inr (by omega)))
   have fx:j.nb<z (G a):=(ae HD).lt j.nb<|.inr<|.inl rfl;have bT:=U ((ae A).kept (p.block _ (by have:=(ae C).size;omega) (λd=>by
    have h1:=((ae m) K'.nb (.inr (.inl rfl))).1;have h2:=((ae m) K'.sb (.inr (.inr (.inl rfl)))).1;rcases d with d|d<;>omega)) (p.block _ (ae A).lt (λd=>by
     have h1:=((ae m) K'.nb (.inr (.inl rfl))).2;have h2:=((ae m) K'.sb (.inr (.inr (.inl rfl)))).2;rcases d with d|d<;>omega)))
   clear dn dc fe au p Q;go_wp2;go_roundw;case rel=>
    obtain⟨ey,bm⟩:=ae bu;refine⟨gf++gg,{K' with files:=K'.files++[⟨f.name,z<|G q,.slice x3 (y f.bytes) c3,f.bytes,y f.bytes⟩],sm:=K'.sm.put f.name (.pointer<|H ⟨z<|G q,0,none⟩)},?_,ae HM,ey,?_,?_,λhb hg=>(ae HL) hb ?_,ae cj⟩
    .refine List.Perm.trans ?_<|ae HP;show List.Perm (vw (K'.files++[⟨f.name,z<|G q,.slice x3 (y f.bytes) c3,f.bytes,y f.bytes⟩])++vw (gf++gg)) (vw K'.files++vw (gf++f::gg));simp only[vw,aM,aY,eW,aU,jM];exact lz _ kV.symm
    .intro k o;have bi:=(ae w).1;have gv:=(ae C).size;have gt:=(ae A).lt;rcases bm k o with d|d|d
     .exact(ae m) k d
     .have:k=z (G q):=d;exact⟨by omega,by omega⟩
     .have:=((ae X).lt k d).1;have ck:z (G n.drew)=z (G n):=rfl;exact⟨by omega,by omega⟩
    .rw[aM];exact ae bT
    .simp only[am,az]at hg|-;exact hg.imp id .inr
   case measure=>rw[(ae bT).left_eq,(ae ca).left_eq];simp
