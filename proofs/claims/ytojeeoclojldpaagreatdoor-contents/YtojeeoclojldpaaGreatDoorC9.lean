import Derived.LoopIn
import Derived.LoopNIn
import Derived.RangeFuncBound
import Derived.RangeFuncLeaves
import Derived.RangeFuncNested
import Derived.Shelf.AbstractIn
import Derived.Shelf.RegionOpen
import Derived.Sort.LoopGhostIn
import Derived.TacticsInMore
import Derived.Test.YtojeeoclojldpaaGreatDoorC4
open _root_ renaming List.length→y,Option.some→H,Array.size→z,Go.World.heap→G,Go.Value.ownBlock→bV,Go.World.cell?→aT,Go.World.setCell→bZ,Go.World.alloc→ct,Bool.false→bF,Bool.true→bW,Nat→M,Int→Z,List→cr,Go.Calls→cy,Go.Proofs.Tryz.prog→bG,Go.Value.slice→J,Go.Value.string→ai,Go.Value.bool→aL,Go.Value.tuple→dB,Go.Value.agg→eC
namespace Go.Proofs.YtojeeoclojldpaaGreatDoor
open ChangeShapes WideShapes RowKit Proofs.Tryz
set_option maxHeartbeats 16000000
set_option linter.all false
set_option maxRecDepth 100000
variable{a f C:I}{b c g l B P:M}{d s N:aa}{e:cA}{k:dW}{X:fJ}{r:jj}{v:ab}{w:E}{x:iU}{T:Type}{V:Array aa}
def ow{P:Program}{w:I}{b:M}{u:aa}{t:TypeId}(h:dV w b u t)(v:aa)(d:v.oneCell'=bW):(store (R b 0) v).run P w=.ok () (bZ w (R b 0) v):=by
 have a:=h.cell;have c:=h.free;rw[run_store P w _ _ _ d];simp[a,c]
abbrev zE:E:=⟨⟨#[]⟩,⟨#[]⟩,bF,0⟩
def Hq{O:AH r b k}{j:fJ}(m:vr r b (mH O c g l B X) a)(p:iK O f c g l B d e P j)(q:r.D f)(t:Y (λi=>mH O c g l B X i\/r.F i) a f)(s:¬mH O c g l B j (z<|G a))(x:E)(o:Obj):r.D ((wK f (z<|G a) x).alloc o)/\Y (λi=>mH O c g l B X i\/r.F i) a ((wK f (z<|G a) x).alloc o)/\iK O ((wK f (z<|G a) x).alloc o) c g l B d e P j:=by
 have h:Y (λi=>i=z (G a)) f ((wK f (z<|G a) x).alloc o):=(ja _ _ _).alloc o;refine⟨r.fi q h (λi n u=>by have:=m.aN i u;have:=m.size;omega),t.trans h (λi n=>.inr<|by omega),p.apart h<|λi n=>?_⟩;subst n;exact⟨s,λa=>by have:=m.size;omega⟩
def Cz(ch:AH r b k){eo:M}(hA:iK ch a c g l B d e eo X)(hD:r.D a)(ey:y k<=1000000000000):cy bG 327 #[aA c,aA g,aA l,aA B] a λdx cu=>r.D cu/\Y (λn=>mH ch c g l B X n\/r.F n) a cu/\((yS e k eo=[]/\dx=aO (dB #[wO,aL bF,.nilIface]))\/(∃dT bg r' C S',yS e k eo=dT::yS r' k C/\dx=aO (dB #[dT.value,aL bW,.nilIface])/\iK ch cu c g l B bg r' C S'/\(∀n,S' n->X n\/z (G a)<=n))):=by
 have fe:∀b a,(callFunc ch.f b).run bG a=.ok (.enter ch.f b) a:=ch.SD;have fb:∀a,(binOp .eql 174 .nilFunc .nilFunc).run bG a=.ok (aL bW) a:=λ_=>rfl;have fd:∀f b a,(binOp .eql 174 (.func f #[] b) .nilFunc).run bG a=.ok (aL bF) a:=λ_ _ _=>rfl;have cp:=hA.pA;have T:=U cp;have cM:∀n,b<=n->¬r.F n:=λn S hf=>by have:=cp.aN n hf;omega
 obtain⟨x,HA,HD⟩:=dC cM hA hD;clear hA hD cp cM;go_in
 go_wp2;go_loopg [9] (2*(y k-eo)+2) (λd _ wr=>∃bg r' C S' eq,2*(y k-C)+eq<d/\((bg=.nilFunc/\r'=[])\/(eq=1/\ji r b bg r' S' wr))/\iK ch wr c g l B bg r' C S'/\r.D wr/\Y (λn=>mH ch c g l B X n\/r.F n) a wr/\yS e k eo=yS r' k C/\(∀n,S' n->X n\/z (G a)+1<=n)/\ii wr (z<|G a) zE/\¬mH ch c g l B S' (z<|G a))
 (case atStart=>have h:=ae HA;refine⟨d,e,eo,X,1,by omega,?_,h.laid _,r.fi HD ((Y.refl aB a).alloc _) cG,(Y.refl _ _).alloc _,rfl,λn S=>.inl S,aD _ rfl,λj=>?_⟩;rcases(h.laid<|ar #[ai ⟨#[]⟩,ai ⟨#[]⟩,aL bF,aH 0] 164).row with⟨c1,c2,_⟩|j;exact .inl ⟨c1,c2⟩;exact .inr ⟨rfl,j⟩;have:=(h.pA.each _ j).2;omega)
 case round=>
  obtain⟨bg,r',C,S',eq,bs,dn,p,ac,bo,bf,bn,F,bm⟩:=hrel;have ex:=p.br.cell;have et:=p.ba.cell;have eu:=p.bn.cell;have ev:=p.bo.cell;have n1:=p.ra;have n2:¬g=c:=λdx=>p.ra dx.symm;have bi:=U bo;have cm:=U bf;have W:=U F;have cx:=U bn;have m:=U bm;have cv:=U bs;rcases dn with⟨rfl,rfl⟩|⟨rfl,Q,w,rfl,es,bc⟩
  .by_cases cc:C<y k
   .have ce:=ch.call C cc wr p.inv ac;have cT:yS [] k C=yS k[C] k (C+1):=by unfold yS;rw[bE cc,aX,cC]
    have bT:=U<|bf.trans cT;have cE:=p.br;have cB:=p.ba;obtain⟨HK,bx,bv⟩:=dC (show∀n,n=c\/n=g->b<=n by rintro n(rfl|rfl);exact p.own.1;exact p.own.2.1) cE cB;clear cE cB;have ck:=U p;clear p ac bo bf F bn bm bs cT;cases hla:k[C]with
    |nil=>
     rw[hla]at ce bT;have bh:=U hla;clear hla;go_wp2_with(first
      |(go_at_fn ch.f;refine ce.mono ?_;rintro dx w1⟨v1,S1,rfl,br,bk,O,av⟩;obtain⟨Q,w,rfl,cb,bt⟩:=br;have hA1:=ck.opened cc O (by rw[ae bh];exact⟨Q,w,rfl,cb,bt⟩) av;have K:dV w1 c .nilFunc 174:=(O.block c (ak bx)<|x _<|HK _<|.inl rfl).trans bx;have A:dV w1 g (.int .i64 C) 3:=(O.block g (ak bv)<|x _<|HK _<|.inr rfl).trans bv;have ds:=ow (P:=bG) K (.func (.func Q) #[] w) rfl;have db:=A.cell;have dc:=A.free;have dk:=ak K;have dd:=ak A;have bb:Y (λn=>n=c\/n=g) w1 (bZ (bZ w1 (R c 0)<|.func (.func Q) #[] w) (R g 0)<|.int .i64<|(C:Z)+1):=((Y.refl (λn=>n=c\/n=g) w1).setCell c 0 _<|.inl<|.inl rfl).setCell g 0 _<|.inl<|.inr rfl;have bl:=r.fi bk bb<|λn S=>x n<|HK n S;have bu:Hy r b Q w [] S1 (bZ (bZ w1 (R c 0)<|.func (.func Q) #[] w) (R g 0)<|.int .i64<|(C:Z)+1):=(by rcases hA1.row with⟨j,_⟩|⟨f2,ea,cs,_,N⟩;cases j;cases cs;rw[ae bh]at N;exact N);have L:=bu.2 _ (jz.refl _ _ _ _) bl;have eb:=hA1.br.cell;have eg:=hA1.br.free;have el:=ak hA1.br;have v:=U hA1;have ao:=U O;have bd:=U av;have au:=U bb;clear bk O av bt hA1 K A bb bl bu)
      |(go_at_fn Q;refine L.mono ?_;rintro dx w2⟨rfl,D,q⟩;have hA2:=v.ended (q.alloc (.cells #[.string ⟨#[]⟩,.string ⟨#[]⟩,.bool bF,.int .u64 0] 164));have bp:dV w2 c (.func (.func Q) #[] w) 174:=(q.block c (ak v.br) (λj=>j.elim (λj=>(v.nS c j).1 rfl) (λj=>x _ v.own.1 j))).trans v.br;have dv:=ow (P:=bG) (bp.alloc (.cells #[.string ⟨#[]⟩,.string ⟨#[]⟩,.bool bF,.int .u64 0] 164)) .nilFunc rfl;have al:=U hA2;have an:=U D;have V:=U q;clear hA2 D q bp;unfold wO))
     go_roundg(2*(y k-C));case measure=>have:=ae cv;omega
     case rel=>
      have ba:z (G a)<z (G wr):=ak W;have cd:¬r.F (z<|G a):=x _ T.size;have ad:z (G a)≠c/\z (G a)≠g:=⟨λj=>m<|.inl j,λj=>m<|.inr<|.inl j⟩;have en:=au.size;have em:=ao.size;have hT:Y (λn=>mH ch c g l B X n\/r.F n) a (bZ (ct w2<|ar #[ai ⟨#[]⟩,ai ⟨#[]⟩,aL bF,aH 0] 164) (R c 0) .nilFunc):=by
       refine((((bi.trans ao<|λn S=>.inl<|.inr S).trans au ?_).trans V ?_).alloc _).setCell c 0 _<|.inl<|.inl<|.inl rfl
       .rintro n(j|j)
        .exact .inl<|.inl<|.inl j
        .exact .inl<|.inl<|.inr<|.inl j
       .rintro n(j|j)
        .have:=bd n j;exact .inr<|by omega
        .exact .inl<|.inr j
      have cn:=r.fi an (((Y.refl (λn=>n=c) w2).alloc<|ar #[ai ⟨#[]⟩,ai ⟨#[]⟩,aL bF,aH 0] 164).setCell c 0 .nilFunc<|.inl rfl) (λn S=>by rw[S];exact x _ v.own.1);have o:ii (bZ (ct w2<|ar #[ai ⟨#[]⟩,ai ⟨#[]⟩,aL bF,aH 0] 164) (R c 0) .nilFunc) (z<|G a) zE:=by
       refine(iq _ ad.1).trans<|ii.alloc (b:=z<|G a) (x:=zE) ?_ _;refine(((W.aw ao cd).aw au<|λj=>j.elim ad.1 ad.2).aw V ?_);rintro(j|j)
       .have:=bd _ j;omega
       .exact cd j
      refine⟨.nilFunc,[],C+1,λ_=>False,0,by omega,.inl ⟨rfl,rfl⟩,al,cn,hT,bT,cG,o,?_⟩;rintro(j|j|j|j|j|j)
      .exact ad.1 j
      .exact ad.2 j
      .exact m<|.inr<|.inr<|.inl j
      .exact m<|.inr<|.inr<|.inr<|.inl j
      .exact j
      .exact m<|.inr<|.inr<|.inr<|.inr<|.inr j
    |cons dT r2=>
     rw[hla]at ce bT;have bh:=U hla;clear hla;obtain⟨t,u,s,f⟩:=dT;go_wp2_with(first
      |(go_at_fn ch.f;refine ce.mono ?_;rintro dx w1⟨v1,S1,rfl,br,bk,O,av⟩;obtain⟨Q,w,rfl,cb,bt⟩:=br;have hA1:=ck.opened cc O (by rw[ae bh];exact⟨Q,w,rfl,cb,bt⟩) av;have K:dV w1 c .nilFunc 174:=(O.block c (ak bx)<|x _<|HK _<|.inl rfl).trans bx;have A:dV w1 g (.int .i64 C) 3:=(O.block g (ak bv)<|x _<|HK _<|.inr rfl).trans bv;have ds:=ow (P:=bG) K (.func (.func Q) #[] w) rfl;have db:=A.cell;have dc:=A.free;have dk:=ak K;have dd:=ak A;have bb:Y (λn=>n=c\/n=g) w1 (bZ (bZ w1 (R c 0)<|.func (.func Q) #[] w) (R g 0)<|.int .i64<|(C:Z)+1):=((Y.refl (λn=>n=c\/n=g) w1).setCell c 0 _<|.inl<|.inl rfl).setCell g 0 _<|.inl<|.inr rfl;have bl:=r.fi bk bb<|λn S=>x n<|HK n S;have bu:Hy r b Q w (⟨t,u,s,f⟩::r2) S1 (bZ (bZ w1 (R c 0)<|.func (.func Q) #[] w) (R g 0)<|.int .i64<|(C:Z)+1):=(by rcases hA1.row with⟨j,_⟩|⟨f2,ea,cs,_,N⟩;cases j;cases cs;rw[ae bh]at N;exact N);have L:=bu.2 _ (jz.refl _ _ _ _) bl;unfold E.value at L;simp only at L;have bq:Enters bG Q:=cb;have eb:=hA1.br.cell;have eg:=hA1.br.free;have el:=ak hA1.br;have v:=U hA1;have ao:=U O;have bd:=U av;have au:=U bb;clear bk O av bt hA1 K A bb bl bu)
      |(go_at_fn Q;refine L.mono ?_;rintro dx w2⟨rfl,D,q,S2,ax,N⟩;have hA2:=v.SQ q ax ⟨Q,w,rfl,bq,N⟩;have o:ii w2 (z (G a)) zE:=(((W.aw ao (x _ T.size)).aw au (λj=>j.elim (λj=>m (.inl j)) (λj=>m (.inr (.inl j))))).aw q (λj=>j.elim (λj=>by have:=bd _ j;have:=ak W;omega) (x _ T.size)));obtain⟨ec,ed,ee,ef⟩:=o.cells;have ei:=o.free (i:=0);have br:=o.free (i:=1);have ej:=o.free (i:=2);have ek:=o.free (i:=3);have dm:=ak o;have cl:=U o;have al:=U hA2;have an:=U D;have V:=U q;have ca:=U ax;clear hA2 D q ax N o))
     refine cI (fW rfl _ _ (z<|G a) ⟨t,u,s,f⟩ _ _ rfl<|(cl.put ⟨t,u,s,f⟩).alloc _) rfl ?_;have ba:z (G a)<z (G wr):=ak W;have en:=au.size;have em:=ao.size;have hT:Y (λn=>mH ch c g l B X n\/r.F n) a w2:=by
      refine((bi.trans ao<|λn S=>.inl<|.inr S).trans au ?_).trans V ?_
      .rintro n(j|j)
       .exact .inl<|.inl<|.inl j
       .exact .inl<|.inl<|.inr<|.inl j
      .rintro n(j|j)
       .have:=bd n j;exact .inr<|by omega
       .exact .inl<|.inr j
     have cj:∀n,S2 n->z (G a)<n:=λn S=>by
      rcases ca n S with j|j
      .have:=bd n j;omega
      .omega
     have co:¬mH ch c g l B S2 (z<|G a):=by
      rintro(j|j|j|j|j|j)
      .exact m<|.inl j
      .exact m<|.inr<|.inl j
      .exact m<|.inr<|.inr<|.inl j
      .exact m<|.inr<|.inr<|.inr<|.inl j
      .have:=cj _ j;omega
      .exact m<|.inr<|.inr<|.inr<|.inr<|.inr j
     obtain⟨q1,q2,q3⟩:=Hq T al an hT co ⟨t,u,s,f⟩<|ar #[ai t,ai u,aL s,aH f] 164;exact⟨q1,q2,.inr ⟨⟨t,u,s,f⟩,_,r2,C+1,S2,bT,rfl,q3,λn S=>.inr (by have:=cj n S;omega)⟩⟩
   .have O:C=y k:=by have:=p.le;omega
    subst O;obtain⟨bd,bh,bk,bl⟩:=F.cells;have ao:=F.free (i:=0);have au:=F.free (i:=1);have av:=F.free (i:=2);have bb:=F.free (i:=3);have ck:=U p;have K:=U ac;clear p ac bo bf F bn bm bs;go_wp2;refine cI (fW rfl _ _ (z<|G a) zE _ _ rfl<|W.put zE) rfl ?_;have A:Y (λn=>n=z (G a)) wr (wK wr (z<|G a) zE):=ja _ _ _;refine⟨r.fi K A (λn S hf=>by have:=T.aN n hf;have:=T.size;omega),bi.trans A (λn S=>.inr<|by omega),.inl ⟨?_,rfl⟩⟩;rw[ae cm];simp[yS]
  .have ba:z (G a)<z (G wr):=ak F;have bq:Enters bG Q:=es;have O:=U ba;cases r' with
   |nil=>
    have L:=bc.2 wr (jz.refl _ _ _ _) ac;have v:=U p;clear p ac bo bf F bn bm bs bc ba;go_wp2_with(go_at_fn Q;refine L.mono ?_;rintro dx w2⟨rfl,D,q⟩;have hA2:=v.ended<|q.alloc<|ar #[ai ⟨#[]⟩,ai ⟨#[]⟩,aL bF,aH 0] 164;have bp:dV w2 c (.func (.func Q) #[] w) 174:=(q.block c (ak v.br)<|λj=>j.elim (λj=>(v.nS c j).1 rfl)<|λj=>x _ v.own.1 j).trans v.br;have dv:=ow (P:=bG) (bp.alloc<|ar #[ai ⟨#[]⟩,ai ⟨#[]⟩,aL bF,aH 0] 164) .nilFunc rfl;have al:=U hA2;have an:=U D;have V:=U q;clear hA2 D q bp;unfold wO)
    go_roundg(2*(y k-C)+1);case measure=>have:=ae cv;omega
    case rel=>
     have cd:¬r.F (z<|G a):=x _ T.size;have ad:z (G a)≠c:=λj=>m<|.inl j;have A:=ae cx;have ba:=ae O;have hT:Y (λn=>mH ch c g l B X n\/r.F n) a (bZ (ct w2<|ar #[ai ⟨#[]⟩,ai ⟨#[]⟩,aL bF,aH 0] 164) (R c 0) .nilFunc):=by
      refine((bi.trans V ?_).alloc _).setCell c 0 _<|.inl<|.inl<|.inl rfl;rintro n(j|j)
      .rcases A n j with K|K
       .exact .inl<|.inl<|.inr<|.inr<|.inr<|.inr<|.inl K
       .exact .inr<|by omega
      .exact .inl<|.inr j
     have cn:=r.fi an (((Y.refl (λn=>n=c) w2).alloc<|ar #[ai ⟨#[]⟩,ai ⟨#[]⟩,aL bF,aH 0] 164).setCell c 0 .nilFunc<|.inl rfl) (λn S=>by rw[S];exact x _ v.own.1);have o:ii (bZ (ct w2<|ar #[ai ⟨#[]⟩,ai ⟨#[]⟩,aL bF,aH 0] 164) (R c 0) .nilFunc) (z<|G a) zE:=by
      refine(iq _ ad).trans<|ii.alloc (b:=z<|G a) (x:=zE) ?_ _;refine W.aw V ?_;rintro(j|j)
      .exact m<|.inr<|.inr<|.inr<|.inr<|.inl j
      .exact cd j
     refine⟨.nilFunc,[],C,λ_=>False,0,by omega,.inl ⟨rfl,rfl⟩,al,cn,hT,cm,cG,o,?_⟩;rintro(j|j|j|j|j|j)
     .exact ad j
     .exact m<|.inr<|.inl j
     .exact m<|.inr<|.inr<|.inl j
     .exact m<|.inr<|.inr<|.inr<|.inl j
     .exact j
     .exact m<|.inr<|.inr<|.inr<|.inr<|.inr j
   |cons dT r2=>
    have L:=bc.2 wr (jz.refl _ _ _ _) ac;have v:=U p;clear p ac bo bf F bn bm bs bc ba;obtain⟨t,u,s,f⟩:=dT;unfold E.value at L;simp only at L;go_wp2_with(go_at_fn Q;refine L.mono ?_;rintro dx w2⟨rfl,D,q,S2,ax,N⟩;have hA2:=v.SQ q ax ⟨Q,w,rfl,bq,N⟩;have o:ii w2 (z<|G a) zE:=(W.aw q<|λj=>j.elim (λj=>m<|.inr<|.inr<|.inr<|.inr<|.inl j)<|x _ T.size);obtain⟨ec,ed,ee,ef⟩:=o.cells;have ei:=o.free (i:=0);have br:=o.free (i:=1);have ej:=o.free (i:=2);have ek:=o.free (i:=3);have dm:=ak o;have cl:=U o;have al:=U hA2;have an:=U D;have V:=U q;have ca:=U ax;clear hA2 D q ax N o)
    refine cI (fW rfl _ _ (z<|G a) ⟨t,u,s,f⟩ _ _ rfl<|(cl.put ⟨t,u,s,f⟩).alloc _) rfl ?_;have ba:=ae O;have A:=ae cx;have hT:Y (λn=>mH ch c g l B X n\/r.F n) a w2:=by
     refine bi.trans V ?_;rintro n(j|j)
     .rcases A n j with K|K
      .exact .inl<|.inl<|.inr<|.inr<|.inr<|.inr<|.inl K
      .exact .inr<|by omega
     .exact .inl<|.inr j
    have co:¬mH ch c g l B S2 (z<|G a):=by
     rintro(j|j|j|j|j|j)
     .exact m<|.inl j
     .exact m<|.inr<|.inl j
     .exact m<|.inr<|.inr<|.inl j
     .exact m<|.inr<|.inr<|.inr<|.inl j
     .rcases ca _ j with K|K
      .exact m<|.inr<|.inr<|.inr<|.inr<|.inl K
      .omega
     .exact m<|.inr<|.inr<|.inr<|.inr<|.inr j
    obtain⟨q1,q2,q3⟩:=Hq T al an hT co ⟨t,u,s,f⟩<|ar #[ai t,ai u,aL s,aH f] 164;refine⟨q1,q2,.inr ⟨⟨t,u,s,f⟩,_,r2,C,S2,cm,rfl,q3,λn S=>?_⟩⟩;rcases ca n S with K|K
    .rcases A n K with K|K
     .exact .inl K
     .exact .inr<|by omega
    .exact .inr<|by omega
def OK(O:AH r b k)(m i j l:M)(e:y k<=1000000000000):∀(v:cA)(t:aa)(A:cA)(x:M)(S:fJ)(B:I),yS A k x=v->iK O B m i j l t A x S->Hy r b 327 #[aA m,aA i,aA j,aA l] v (mH O m i j l S) B:=by
 intro v;induction v with
 |nil=>
  intro t A x S B h d;refine⟨d.pA,λN s q=>(Cz O (d.same s) q e).mono ?_⟩;rintro Q g⟨o,p,⟨_,a⟩|⟨V,f,w,u,n,a,_⟩⟩
  .exact⟨a,o,p⟩
  .rw[h]at a;cases a
 |cons P v L=>
  intro t A x S B h d;refine⟨d.pA,λN s q=>(Cz O (d.same s) q e).mono ?_⟩;rintro Q g⟨o,p,⟨a,_⟩|⟨V,f,w,u,n,a,D,E,F⟩⟩
  .rw[h]at a;cases a
  .rw[h]at a;obtain⟨rfl,K⟩:=yI a;refine⟨D,o,p,mH O m i j l n,?_,L f w u n g K.symm E⟩;rintro T(c|c|c|c|c|c)
   .exact .inl<|.inl c
   .exact .inl<|.inr<|.inl c
   .exact .inl<|.inr<|.inr<|.inl c
   .exact .inl<|.inr<|.inr<|.inr<|.inl c
   .rcases F T c with C|C
    .exact .inl<|.inr<|.inr<|.inr<|.inr<|.inl C
    .exact .inr C
   .exact .inl<|.inr<|.inr<|.inr<|.inr<|.inr c
def Hr(O:AH r b k)(w:I)(a:O.inv w)(o:b<=z (G w))(hF:∀d,r.F d->d<b)(f:y k<=1000000000000):cy bG 322 #[ap<|y k,.func (.func O.f) #[] O.cb] w λq l=>∃j g,q=aO j/\ji r b j k.flatten g l/\Below (z<|G w) w l/\(∀d,g d->O.S d\/z (G w)<=d):=by
 have n:=U a;have m:=U hF;clear a hF;go_in
 go_wp2;go_ret;have a:=ae n;have i:Below (z<|G w) w (ct (ct (ct (ct w<|ar #[ap<|y k] 3)<|ar #[.func (.func O.f) #[] O.cb] 425)<|ar #[ap 0] 3)<|ar #[.nilFunc] 174):=((((Below.refl _ w).alloc (ah _) _).alloc (by simp) _).alloc (by simp;omega) _).alloc (by simp;omega) _;have p:Y aB w _:=Y.aW i;refine⟨_,mH O (z (G w)+1+1+1) (z (G w)+1+1) (z<|G w) (z (G w)+1) aB,rfl,⟨327,_,rfl,enters_of func327 (by kernel_rfl) rfl,?_⟩,i,?_⟩;refine OK O _ _ _ _ f k.flatten .nilFunc [] 0 _ _ rfl ⟨aD _ (by simp),?_,?_,?_,.inl ⟨rfl,rfl,λ_ c=>c⟩,O.fi w _ a<|p.same o (λd e=>⟨(O.lt w a d e).2,λc=>c⟩) cG,bA _,by simp;omega,m,⟨by omega,by omega,by omega,by omega⟩,by omega,by omega,by omega,by omega,by omega,cG,λd e=>?_⟩;exact dV.alloc (aD _<|by simp) _;exact dV.alloc (dV.alloc (dV.alloc (aD _ rfl) _) _) _;exact dV.alloc (dV.alloc (aD _<|by simp) _) _;have:=(O.lt w a d e).2;exact⟨by omega,by omega,by omega,by omega⟩;rintro d(c|c|c|c|c|c);exact .inr (by omega);exact .inr (by omega);exact .inr (by omega);exact .inr (by omega);exact c.elim;exact .inl c
structure Hd where
 v:aa
 l:cA
 fr:E
 full:Bool
 ended:Bool
 S:M->Prop
def Hd.cells(h:Hd):iU:=[h.v,.string h.fr.key,.string h.fr.val,.bool h.fr.del,.int .u64 h.fr.bI,.bool h.full,.bool h.ended]
def dU(hs:cr Hd):iU:=hs.flatMap Hd.cells
def Hd.rest(h:Hd):cA:=if h.full then h.fr::h.l else h.l
theorem mN(hs:cr Hd):y (dU hs)=y hs*7:=by
 induction hs with
 |nil=>rfl
 |cons h r c=>unfold dU at*;rw[dI,af,c];simp[Hd.cells];omega
theorem qj(hs:cr Hd)(i:M)(h:i<y hs):dU hs=dU (hs.take i)++(Hd.cells hs[i]++dU (hs.drop<|i+1)):=by
 have c:hs=hs.take i++hs[i]::hs.drop (i+1):=by rw[<-bE h,bX]
 conv=>lhs;rw[c]
 simp only[dU,fZ,dI]
theorem se(hs:cr Hd)(i j:M)(h:i<y hs)(d:j<7):(dU hs)[i*7+j]?=(Hd.cells hs[i])[j]?:=by
 have c:y (dU<|hs.take i)=i*7:=by rw[mN];simp;omega
 rw[qj hs i h,dE (by omega),c,show i*7+j-i*7=j by omega,gd (by simp[Hd.cells];omega)]
theorem Jd(hs:cr Hd)(i:M)(h:i<y hs)(x:Hd)(e:x.v=hs[i].v):(((((((dU hs).set (i*7+1)<|.string x.fr.key).set (i*7+2)<|.string x.fr.val).set (i*7+3)<|.bool x.fr.del).set (i*7+4)<|.int .u64 x.fr.bI).set (i*7+5)<|.bool x.full).set (i*7+6)<|.bool x.ended)=dU (hs.set i x):=by
 have d:y (dU<|hs.take i)=i*7:=by rw[mN];simp;omega
 have c:dU (hs.set i x)=dU (hs.take i)++(Hd.cells x++dU (hs.drop<|i+1)):=by rw[jf,dw h];simp only[dU,fZ,dI]
 rw[c,qj hs i h];rw[gC _ _ (by omega),gC _ _ (by omega),gC _ _ (by omega),gC _ _ (by omega),gC _ _ (by omega),gC _ _ (by omega),d];rw[show i*7+1-i*7=1 by omega,show i*7+2-i*7=2 by omega,show i*7+3-i*7=3 by omega,show i*7+4-i*7=4 by omega,show i*7+5-i*7=5 by omega,show i*7+6-i*7=6 by omega];simp[Hd.cells,e]
theorem FP(hs:cr Hd)(i:M)(h:i<y hs)(x:Hd)(e:x={hs[i]with full:=x.full}):(dU hs).set (i*7+5) (.bool x.full)=dU (hs.set i x):=by
 have d:y (dU<|hs.take i)=i*7:=by rw[mN];simp;omega
 have c:dU (hs.set i x)=dU (hs.take i)++(Hd.cells x++dU (hs.drop<|i+1)):=by rw[jf,dw h];simp only[dU,fZ,dI]
 rw[c,qj hs i h,gC _ _ (by omega),d,show i*7+5-i*7=5 by omega];rw[e];simp[Hd.cells]
structure Sz(V:jj)(n0:M)(w:I)(h:Hd):Prop where
 gives:h.ended=bF->ji V n0 h.v h.l h.S w
 own:vr V n0 h.S w
 done:h.ended=bW->h.l=[]/\h.full=bF
theorem Sz.same{V:jj}{n0:M}{w w':I}{h:Hd}(o:Sz V n0 w h)(hs:jz V n0 h.S w w'):Sz V n0 w' h:=⟨λe=>(o.gives e).same hs,o.own.same hs,o.done⟩
structure jt(V:jj)(n0:M)(w:I)(b a:M)(hs:cr Hd):Prop where
 box:dV w b (bD a 0 (y hs)<|y hs) 312
 row:w.heap[a]?=H (.cells (dU hs).toArray 314 (0,0))
 each:∀i(hi:i<y hs),Sz V n0 w hs[i]
 size:n0<=z (G w)
 aN:∀k,V.F k->k<n0
 own:n0<=b/\n0<=a
 bh:b≠a
 nS:∀i(hi:i<y hs)k,hs[i].S k->k≠b/\k≠a
 Mb:∀i j(hi:i<y hs)(hj:j<y hs),i≠j->∀k,hs[i].S k->¬hs[j].S k
def lF(b a:M)(hs:cr Hd)(k:M):Prop:=k=b\/k=a\/∃i,∃c:i<y hs,hs[i].S k
section
variable{V:jj}{n0:M}{w w':I}{b a:M}{hs:cr Hd}
theorem jt.pA(h:jt V n0 w b a hs):vr V n0 (lF b a hs) w:=⟨h.size,h.aN,by
 rintro k(rfl|rfl|⟨i,c,d⟩)
 .exact⟨h.own.1,ak h.box⟩
 .exact⟨h.own.2,ak h.row⟩
 .exact(h.each i c).own.each k d⟩
theorem jt.same(h:jt V n0 w b a hs)(c:jz V n0 (lF b a hs) w w'):jt V n0 w' b a hs:=⟨h.box.same c<|.inl rfl,(c.2 a<|.inr<|.inr<|.inl rfl).trans h.row,λi d=>(h.each i d).same<|c.mono<|λ_ e=>.inr<|.inr ⟨i,d,e⟩,aE h.size c.1,h.aN,h.own,h.bh,h.nS,h.Mb⟩
theorem jt.apart{T:fJ}(h:jt V n0 w b a hs)(f:Y T w w')(e:∀k,T k->¬lF b a hs k/\(k<n0->V.F k)):jt V n0 w' b a hs:=h.same<|f.same h.size (λk c=>⟨(h.pA.each k c).2,λg=>(e k g).1 c⟩)<|λk c d=>(e k c).2 d
theorem jt.laid(h:jt V n0 w b a hs)(o:Obj):jt V n0 (ct w o) b a hs:=h.apart ((Y.refl aB w).alloc o) cG
theorem jt.put(h:jt V n0 w b a hs)(l:M)(j:l<y hs)(B:Hd)(x:Y (λk=>(hs[l].S k\/V.F k)\/k=a) w w')(C:w'.heap[a]?=H (.cells (dU<|hs.set l B).toArray 314 (0,0)))(D:Sz V n0 w' B)(r:∀k,B.S k->hs[l].S k\/z (G w)<=k):jt V n0 w' b a (hs.set l B):=by
 have hF:∀k,n0<=k->¬V.F k:=λk c d=>by have:=h.aN k d;omega
 have s:dV w' b (bD a 0 (y hs)<|y hs) 312:=by refine(x.block b (ak h.box) ?_).trans h.box;rintro((d|d)|d);exact(h.nS l j b d).1 rfl;exact hF b h.own.1 d;exact h.bh d
 refine⟨by rw[eK];exact s,C,λo t=>?_,aE h.size x.size,h.aN,h.own,h.bh,λo t k c=>?_,λn m u v i k c=>?_⟩;rw[kW];split;exact D;rename_i i;(have e:o<y hs:=by simpa using t);refine(h.each o e).same<|x.same h.size (λk c=>⟨((h.each o e).own.each k c).2,?_⟩)<|λk c g=>?_;rintro((d|d)|d);exact h.Mb l o j e i k d c;exact hF k ((h.each o e).own.each k c).1 d;exact(h.nS o e k c).2 d;rcases c with(d|d)|d;have:=((h.each l j).own.each k d).1;omega;exact d;have:=h.own.2;omega;rw[kW]at c;split at c;rcases r k c with d|d;exact h.nS l j k d;have e:=ak h.box;have g:=ak h.row;exact⟨by omega,by omega⟩;exact h.nS o (by simpa using t) k c;rw[kW]at c|-;(have e:n<y hs:=by simpa using u);(have g:m<y hs:=by simpa using v);split at c;rename_i q;have A:¬l=m:=λd=>i<|q.symm.trans d;rw[cW A];rcases r k c with d|d;exact h.Mb l m j g A k d;intro c2;have:=((h.each m g).own.each k c2).2;omega;rename_i q;split;intro c2;rcases r k c2 with d|d;exact h.Mb l n j e q k d c;have:=((h.each n e).own.each k c).2;omega;exact h.Mb n m e g i k c
end
def sY{d:cr Hd}(h:a.heap[b]?=H (.cells (dU d).toArray 314 (0,0)))(i:M)(e:i<y d):(aT a (R b<|i*7+1)=H (.string d[i].fr.key)/\aT a (R b<|i*7+1+1)=H (.string d[i].fr.val)/\aT a (R b<|i*7+1+2)=H (.bool d[i].fr.del)/\aT a (R b<|i*7+1+3)=H (.int .u64 d[i].fr.bI)/\aT a (R b<|i*7+5)=H (.bool d[i].full)/\aT a (R b<|i*7+6)=H (.bool d[i].ended))/\∀o,a.frozen? (R b o)=bF:=by
 have c:∀j,j<7->aT a (R b<|i*7+j)=(Hd.cells d[i])[j]?:=λj f=>by rw[bN h];simp only[qx];exact se d i j e f
 exact⟨⟨c 1 (by decide),by rw[aV];exact c 2 (by decide),by rw[aV];exact c 3 (by decide),by rw[aV];exact c 4 (by decide),c 5 (by decide),c 6<|by decide⟩,λo=>dK h⟩
def KJ(w:I)(a i:M)(x:Hd):I:=bZ (bZ (bZ (bZ (bZ (bZ w (R a<|i*7+1)<|.string x.fr.key) (R a<|i*7+1+1)<|.string x.fr.val) (R a<|i*7+1+2)<|.bool x.fr.del) (R a<|i*7+1+3)<|.int .u64 x.fr.bI) (R a<|i*7+5)<|.bool x.full) (R a<|i*7+6)<|.bool x.ended
def QK(w:I)(a i:M)(x:Hd):Y (λk=>k=a) w (KJ w a i x):=((((((Y.refl (λk=>k=a) w).setCell a _ _<|.inl rfl).setCell a _ _<|.inl rfl).setCell a _ _<|.inl rfl).setCell a _ _<|.inl rfl).setCell a _ _<|.inl rfl).setCell a _ _<|.inl rfl
def Tx{c:cr Hd}(h:a.heap[b]?=H (.cells (dU c).toArray 314 (0,0)))(i:M)(d:i<y c)(x:Hd)(e:x.v=c[i].v):(KJ a b i x).heap[b]?=H (.cells (dU<|c.set i x).toArray 314 (0,0)):=by
 refine(aR<|aR<|aR<|aR<|aR<|aR h).trans ?_;simp only[dZ];rw[<-Jd c i d x e]
def LV{e:cr Hd}(p:jt r b a c g e)(l:M)(t:l<y e)(d:Hd)(D:Obj)(L:d.v=e[l].v)(A:Y (λk=>e[l].S k\/r.F k) a f)(u:r.D f)(v:f.heap[g]?=H (.cells (dU e).toArray 314 (0,0)))(K:d.ended=bF->ji r b d.v d.l d.S f)(h:vr r b d.S f)(m:d.ended=bW->d.l=[]/\d.full=bF)(w:∀k,d.S k->e[l].S k\/z (G a)<=k)(n:d.rest=e[l].rest)(B:d.full=bW\/d.ended=bW):r.D ((KJ f g l d).alloc D)/\Y (λk=>lF c g e k\/r.F k) a ((KJ f g l d).alloc D)/\∃E:Hd,jt r b ((KJ f g l d).alloc D) c g (e.set l E)/\E.rest=e[l].rest/\(E.full=bW\/E.ended=bW)/\(∀k,E.S k->e[l].S k\/z (G a)<=k):=by
 have o:Y (λk=>k=g) f ((KJ f g l d).alloc D):=(QK _ _ _ _).alloc _;have q:Y (λk=>(e[l].S k\/r.F k)\/k=g) a ((KJ f g l d).alloc D):=(A.mono (T:=λk=>(e[l].S k\/r.F k)\/k=g)<|λk j=>.inl<|.inl j).trans o<|λk j=>.inl<|.inr j;have C:((KJ f g l d).alloc D).heap[g]?=H (.cells (dU<|e.set l d).toArray 314 (0,0)):=by have:=Tx v l t d L;exact(fX _<|ak this).trans this
 have x:∀k,d.S k->¬k=g:=λk j s=>by rcases w k j with N|N;exact(p.nS l t k N).2 s;have:=ak p.row;omega
 have i:=o.same (V:=r) (n0:=b) (S:=d.S) h.size (λk j=>⟨(h.each k j).2,x k j⟩) (λk j a=>by have:=p.own.2;omega);refine⟨r.fi u o (λk j F=>by have:=p.aN k F;have:=p.own.2;omega),q.mono ?_,d,p.put l t d q C ⟨λs=>(K s).same i,h.same i,m⟩ w,n,B,w⟩;rintro k((s|s)|s);exact .inl<|.inl<|.inr<|.inr ⟨l,t,s⟩;exact .inl<|.inr s;exact .inl<|.inl<|.inr<|.inl s
def UG(f:cr Hd)(k:M)(s:k<y f)(h:jt r b a c g f)(hD:r.D a):cy bG 194 #[.pointer<|H<|R g<|k*7] a λav w'=>av=.returned .nilIface/\r.D w'/\Y (λac=>lF c g f ac\/r.F ac) a w'/\∃ao:Hd,jt r b w' c g (f.set k ao)/\ao.rest=f[k].rest/\(ao.full=bW\/ao.ended=bW)/\(∀ac,ao.S ac->f[k].S ac\/z (G a)<=ac):=by
 have o:∀j,j<7->aT a (R g<|k*7+j)=(Hd.cells f[k])[j]?:=λj d=>by rw[bN h.row];simp only[qx];exact se f k j s d
 have K:=o 0 (by decide);have e:=o 5 (by decide);have l:=o 6 (by decide);have n:=U h;have HD:=U hD;have u:=h.each k s;clear h hD o;have A:f.set k f[k]=f:=List.set_getElem_self s;have w:=U A;clear A;cases hfu:f[k].full with
 |true=>
  simp only[Hd.cells,hfu]at e K;simp at e;have p:=U hfu;clear hfu u l K;go_in
  go_wp2;go_ret;refine⟨rfl,HD,Y.refl _ _,f[k],?_,rfl,.inl p,λac S=>.inl S⟩;rw[ae w];exact n
 |false=>
  cases hen:f[k].ended with
  |true=>
   simp only[Hd.cells,hfu,hen]at e K l;simp at e l;have p:=U hfu;have L:=U hen;clear hfu hen u K;go_in
   go_wp2;go_ret;refine⟨rfl,HD,Y.refl _ _,f[k],?_,rfl,.inr L,λac S=>.inl S⟩;rw[ae w];exact n
  |false=>
   obtain⟨au,cb,F,eg,i⟩:=u.gives hen;simp only[Hd.cells,hfu,hen,F]at e K l;simp at e l K;obtain⟨p,L,an,ad⟩:=gx hfu hen F<|show Enters bG au from eg;clear hfu hen u F;cases hl:f[k].l with
   |nil=>
    rw[hl]at i;have Q:=i.2 a (jz.refl _ _ _ _) HD;clear i;have HL:=U hl;clear hl;go_in
    go_wp2_with(go_at_fn au;refine Q.mono ?_;rintro av w1⟨rfl,q,m⟩;have j:w1.heap[g]?=H (.cells (dU f).toArray 314 (0,0)):=(m.block g (ak n.row)<|λD=>D.elim (λD=>(n.nS k s g D).2 rfl) (λD=>by have:=n.aN g D;have:=n.own.2;omega)).trans n.row;obtain⟨⟨c1,c2,c3,c4,c5,c6⟩,d⟩:=sY j k s;have g1:=d<|k*7+1;have g2:=d<|k*7+1+1;have g3:=d<|k*7+1+2;have g4:=d<|k*7+1+3;have g5:=d<|k*7+5;have g6:=d<|k*7+6;have T:=ak j;have C:=U j;have B:=U q;have t:=U m;clear j d q m;unfold wO)
    go_ret;have v:=ae n;refine⟨rfl,LV v k s ⟨f[k].v,[],zE,bF,bW,f[k].S⟩ _ rfl t B C (λD=>by cases D) ((v.each k s).own.aw t) (λ_=>⟨rfl,rfl⟩) (λac S=>.inl S) ?_<|.inr rfl⟩;unfold Hd.rest;rw[ae p,ae HL];rfl
   |cons ao ax=>
    rw[hl]at i;have Q:=i.2 a (jz.refl _ _ _ _) HD;clear i;have HL:=U hl;clear hl;obtain⟨W,X,V,v⟩:=ao;unfold E.value at Q;simp only at Q;go_in
    go_wp2_with(go_at_fn au;refine Q.mono ?_;rintro av w1⟨rfl,q,m,S1,P,O⟩;have j:w1.heap[g]?=H (.cells (dU f).toArray 314 (0,0)):=(m.block g (ak n.row)<|λD=>D.elim (λD=>(n.nS k s g D).2 rfl) (λD=>by have:=n.aN g D;have:=n.own.2;omega)).trans n.row;obtain⟨⟨c1,c2,c3,c4,c5,c6⟩,d⟩:=sY j k s;have g1:=d<|k*7+1;have g2:=d<|k*7+1+1;have g3:=d<|k*7+1+2;have g4:=d<|k*7+1+3;have g5:=d<|k*7+5;have g6:=d<|k*7+6;have T:=ak j;have C:=U j;have B:=U q;have t:=U m;have al:=U P;have N:=U O;clear j d q m P O)
    go_ret;have x:=ae N;refine⟨rfl,LV n k s ⟨f[k].v,ax,⟨W,X,V,v⟩,bW,bF,S1⟩ _ rfl t B C (λ_=>⟨au,cb,an,ad,x⟩) x.own (λD=>by cases D) al ?_<|.inl rfl⟩;unfold Hd.rest;rw[ae p,ae HL];rfl
def Fg:Option M->Z
 |none=>-1
 |some b=>b
def jO(a:cr Hd):dW:=a.map Hd.rest
def QE(a:cr Hd)(i:M)(f:i<y a)(x:Hd)(b:x.rest=a[i].rest):jO (a.set i x)=jO a:=by
 unfold jO;rw[nH,b];refine List.ext_getElem (by simp)<|λj c d=>?_;rw[kW];split;rename_i e;subst e;simp;rfl
def xp{a:cr Hd}(c:b<y a):lC (jO a) b=a[b].rest.head?:=by
 unfold lC jO;simp[c]
def Fo{a:cr Hd}(h:g<y a){x:Hd}{N:M}(f:∀k,x.S k->a[g].S k\/N<=k):∀k,lF b c (a.set g x) k->lF b c a k\/N<=k:=by
 rintro k(d|d|⟨j,i,d⟩);exact .inl<|.inl d;exact .inl<|.inr<|.inl d;rw[kW]at d;split at d;rcases f k d with e|e;exact .inl<|.inr<|.inr ⟨g,h,e⟩;exact .inr e;exact .inl<|.inr<|.inr ⟨j,by simpa using i,d⟩
def vY(w:I)(q:M):Y aB w (w.drewN q):=⟨rfl,rfl,rfl,ah _,λ_ _ _=>rfl⟩
def Jw(h:lC k b=H w)(a:kp k b=none):kp k (b+1)=H b:=by
 unfold kp;rw[h,a]
def Jv{f:E}(h:lC k b=H w)(a:kp k b=H c)(d:lC k c=H f):kp k (b+1)=if ahead w f then H b else H c:=by
 conv=>lhs;unfold kp
 rw[h,a];simp only[d,gU]
def EQ{a:cr Hd}{x:Hd}(h:∀j(c:j<y a),j<b->a[j].full=bW\/a[j].ended=bW)(f:x.full=bW\/x.ended=bW):∀j(c:j<y (a.set b x)),j<b+1->(a.set b x)[j].full=bW\/(a.set b x)[j].ended=bW:=by
 intro j c d;rw[kW];split;exact f;rename_i e;exact h j (by simpa using c)<|by omega
def Cl(e:cr Hd)(h:jt r b a c g e)(hD:r.D a)(hn:y e<=1000000000000):cy bG 193 #[aA c] a λbv ax=>r.D ax/\Y (λk=>lF c g e k\/r.F k) a ax/\((df (jO e)=[]/\bv=.returned (.tuple #[wO,.bool bF,.nilIface]))\/(∃X d,df (jO e)=X::df (jO d)/\bv=.returned (.tuple #[X.value,.bool bW,.nilIface])/\jt r b ax c g d/\y d=y e/\(∀k,lF c g d k->lF c g e k\/z (G a)<=k))):=by
 have bf:=h.pA;have cl:=ak h.box;have cn:=h.box.cell;obtain⟨n,HH,HD⟩:=dC bf h hD;clear h hD bf;go_in
 go_wp2;go_loopw [4,9] (λf bp wr=>∃(p:M)(d:cr Hd),p<=y e/\bp=.int .i64 p/\f=.int .i64 (Fg<|kp (jO e) p)/\jt r b wr c g d/\y d=y e/\jO d=jO e/\(∀bq(hj:bq<y d),bq<p->d[bq].full=bW\/d[bq].ended=bW)/\r.D wr/\Y (λk=>lF c g e k\/r.F k) a wr/\ii wr (z<|G a) zE/\(∀k,lF c g d k->lF c g e k\/z (G a)+1<=k)) (λ_ bp _=>y e-(intOf bp).toNat)
 (case atStart=>have h:=ae HH;exact⟨0,e,bA _,rfl,rfl,h.laid _,rfl,rfl,λbq _ hj=>by omega,r.fi HD ((Y.refl aB a).alloc _) cG,(Y.refl _ _).alloc _,aD _ rfl,λk m=>.inl m⟩)
 case round=>
  obtain⟨p,d,co,rfl,rfl,v,V,C,K,A,hT,D,hS⟩:=hrel;have bT:=v.box.cell;rw[V]at bT;by_cases bi:p<y e
  .have au:=UG d p (by omega) v A;obtain⟨HA,bs,ba,HT,HE,HS⟩:=kG v C K hT D hS;clear v A hT D hS C K;obtain⟨bo,o⟩:∃bo,kp (jO e) p=bo:=⟨_,rfl⟩;rw[o];have Q:=U o;clear o;go_wp2_with(go_at_call 194;refine au.mono ?_;rintro bv w1⟨rfl,bd,bg,X,hA1,bk,bl,bm⟩;have br:=U bd;have bc:=U bg;have q:=U hA1;have bt:=U bk;have an:=U bl;have bu:=U bm;clear bd bg hA1 bk bl bm)
   have L:p<y d:=by omega
   have av:p<y (d.set p X):=by simpa using L
   obtain⟨⟨c1,c2,c3,c4,c5,c6⟩,B⟩:=sY q.row p av;rw[qw]at c1 c2 c3 c4 c5 c6;have bx:=q.box.cell;rw[eK,V]at bx;have P:jO (d.set p X)=jO e:=(QE d p L X bt).trans bs;have bh:lC (jO e) p=X.rest.head?:=by rw[<-P,xp av,qw]
   have ac:=U P;have bb:=U bh;clear P bh B;have cb:z (G a)<z (G wr):=ak HE;have al:∀(ao:I)(O:Z),Y aB w1 ao->Fg (kp (jO e)<|p+1)=O->∃(i:M)(f:cr Hd),i<=y e/\Value.int .i64 ((p:Z)+1)=.int .i64 i/\Value.int .i64 O=.int .i64 (Fg<|kp (jO e) i)/\jt r b ao c g f/\y f=y e/\jO f=jO e/\(∀bq(hj:bq<y f),bq<i->f[bq].full=bW\/f[bq].ended=bW)/\r.D ao/\Y (λk=>lF c g e k\/r.F k) a ao/\ii ao (z<|G a) zE/\(∀k,lF c g f k->lF c g e k\/z (G a)+1<=k):=by
    intro ao O F ad;refine⟨p+1,d.set p X,bi,rfl,by rw[ad],q.apart F cG,by rw[eK];exact V,ac,EQ ba an,r.fi br F cG,?_,?_,?_⟩
    .refine((HT.trans bc ?_).ci F);rintro k(u|u)
     .rcases HS k u with W|W
      .exact .inl<|.inl W
      .exact .inr<|by omega
     .exact .inl<|.inr u
    .refine(HE.aw bc ?_).aw F<|λu=>u;rintro(u|u)
     .rcases HS _ u with W|W
      .have:=(n.each _ W).2;omega
      .omega
     .have:=n.aN _ u;have:=n.size;omega
    .intro k m;rcases Fo L bu k m with W|W
     .exact HS k W
     .exact .inr<|by omega
   have x:=U al;clear al cb;cases hfu:X.full with
   |false=>
    rw[hfu]at c5;have ad:X.ended=bW:=an.resolve_left (by rw[hfu];simp);have ao:=(q.each p av).done;rw[qw]at ao;have bn:=ao ad;have O:lC (jO e) p=none:=by rw[ae bb];unfold Hd.rest;rw[hfu,bn.1];rfl
    have F:kp (jO e) (p+1)=bo:=by unfold kp;rw[O];exact Q
    have HB:=U F;clear F O bn ao ad hfu;go_quiet(fail)
    go_wp2;go_roundw;case rel=>exact x _ _ (vY _ _)<|by rw[ae HB]
    case measure=>simp[intOf];omega
   |true=>
    rw[hfu]at c5;have B:lC (jO e) p=H X.fr:=by rw[ae bb];unfold Hd.rest;rw[hfu];rfl
    cases bo with
    |none=>
     have HB:=U<|Jw B Q;clear B hfu;simp only[Fg];go_quiet(fail)
     go_wp2;go_roundw;case rel=>exact x _ _ (vY _ _) (by rw[ae HB];rfl)
     case measure=>simp[intOf];omega
    |some j=>
     obtain⟨ca,T,w,_⟩:=ua Q;have HB:=U<|Jv B Q w;have l:j<y (d.set p X):=by omega
     have f:(d.set p X)[j].rest.head?=H T:=by rw[<-xp l,ae ac];exact w
     have i:(d.set p X)[j].full=bW:=by
      rcases EQ ba an j l (by omega)with u|u
      .exact u
      .have:=(q.each j l).done u;unfold Hd.rest at f;rw[this.2,this.1]at f;cases f
     have t:(d.set p X)[j].fr=T:=by
      unfold Hd.rest at f;rw[i]at f;simpa using f
     obtain⟨⟨d1,d2,d3,d4,_,_⟩,_⟩:=sY q.row j l;rw[t]at d1 d2 d3 d4;have F:=BK X.fr T;have ao:=ak q.row;have ad:=ak q.box;generalize X.fr=xf at*;obtain⟨xk,xv,xd,O⟩:=xf;obtain⟨fk,fv,fd,s⟩:=T;simp only at c1 c2 c3 c4 d1 d2 d3 d4;simp only[E.value]at F;clear B hfu w f i t c6;simp only[Fg];have i1:(0:Z)<=(j:Z):=by omega
     have i2:(j:Z)<(y e:Z):=by omega
     have i3:j<y e:=by omega
     have i4:¬(j:Z)<0:=by omega
     have i5:(0:Z)<=(p:Z):=by omega
     have i6:(p:Z)<(y e:Z):=by omega
     cases hax:ahead ⟨xk,xv,xd,O⟩ ⟨fk,fv,fd,s⟩with
     |true=>
      rw[hax]at HB F;go_region_held3(λa=>aT a (R c 0)=H (bD g 0 (y e)<|y e)/\aT a (R g<|p*7+5)=H (.bool bW)/\(aT a (R g<|p*7+1)=H (.string xk)/\aT a (R g<|p*7+1+1)=H (.string xv)/\aT a (R g<|p*7+1+2)=H (.bool xd)/\aT a (R g<|p*7+1+3)=H (.int .u64 O))/\(aT a (R g<|j*7+1)=H (.string fk)/\aT a (R g<|j*7+1+1)=H (.string fv)/\aT a (R g<|j*7+1+2)=H (.bool fd)/\aT a (R g<|j*7+1+3)=H (.int .u64 s))) (first|assumption|go_keep) (first
       |(go_at_call 195;refine(F _).mono ?_;rintro bv w2⟨rfl,rfl⟩))
      go_wp2;go_roundw;case rel=>
       refine x _ _ ?_ (by rw[ae HB];rfl);exact((((Y.refl aB w1).alloc _).alloc _)).ci<|vY _ 1
      case measure=>simp[intOf];omega
     |false=>
      rw[hax]at HB F;go_region_held3(λa=>aT a (R c 0)=H (bD g 0 (y e)<|y e)/\aT a (R g<|p*7+5)=H (.bool bW)/\(aT a (R g<|p*7+1)=H (.string xk)/\aT a (R g<|p*7+1+1)=H (.string xv)/\aT a (R g<|p*7+1+2)=H (.bool xd)/\aT a (R g<|p*7+1+3)=H (.int .u64 O))/\(aT a (R g<|j*7+1)=H (.string fk)/\aT a (R g<|j*7+1+1)=H (.string fv)/\aT a (R g<|j*7+1+2)=H (.bool fd)/\aT a (R g<|j*7+1+3)=H (.int .u64 s))) (first|assumption|go_keep) (first
       |(go_at_call 195;refine(F _).mono ?_;rintro bv w2⟨rfl,rfl⟩))
      go_wp2;go_roundw;case rel=>
       refine x _ _ ?_ (by rw[ae HB];rfl);exact((((Y.refl aB w1).alloc _).alloc _)).ci<|vY _ 1
      case measure=>simp[intOf];omega
  .have ck:p=y e:=by omega
   subst ck;obtain⟨bo,o⟩:∃bo,kp (jO e) (y e)=bo:=⟨_,rfl⟩;rw[o];cases bo with
   |none=>
    have hm:=xy (hs:=jO e) (by rw[show y (jO e)=y e by simp[jO]];exact o);have B:=U hm;have q:=U A;have HT:=U hT;have HE:=U D;obtain⟨bu,bx,cb,cc⟩:=D.cells;have cd:=D.free (i:=0);have ce:=D.free (i:=1);have ch:=D.free (i:=2);have cj:=D.free (i:=3);clear hm o v A hT D hS C K;simp only[Fg];go_wp2;refine cI (fW rfl _ _ (z<|G a) zE _ _ rfl<|HE.put zE) rfl ?_;have x:Y (λk=>k=z (G a)) wr (wK wr (z<|G a) zE):=ja _ _ _;exact⟨r.fi q x (λk m hf=>by have:=n.aN k hf;have:=n.size;omega),HT.trans x (λk m=>.inr<|by omega),.inl ⟨B,rfl⟩⟩
   |some j=>
    have bg:y (jO e)=y e:=by simp[jO]
    obtain⟨ca,T,w,_⟩:=ua o;have hm:=xx (hs:=jO e) (by rw[bg];exact o) w;have l:j<y d:=by omega
    have f:d[j].rest.head?=H T:=by rw[<-xp l,C];exact w
    have i:d[j].full=bW:=by
     rcases K j l (by omega)with u|u
     .exact u
     .have:=(v.each j l).done u;unfold Hd.rest at f;rw[this.2,this.1]at f;cases f
    have t:d[j].fr=T:=by
     unfold Hd.rest at f;rw[i]at f;simpa using f
    have B:d[j].ended=bF:=by
     cases u:d[j].ended with
     |false=>rfl
     |true=>have:=((v.each j l).done u).2;rw[i]at this;cases this
    obtain⟨⟨d1,d2,d3,d4,d5,_⟩,O⟩:=sY v.row j l;have g5:=O<|j*7+5;rw[t]at d1 d2 d3 d4;have Q:jO (d.set j {d[j]with full:=bF})=(jO e).modify j List.tail:=by
     rw[<-C];unfold jO;rw[nH];refine List.ext_getElem (by simp)<|λbq h1 h2=>?_;rw[kW,List.getElem_modify];split
     .rename_i bv;subst bv;simp[Hd.rest,i]
     .simp
    have F:(bZ wr (R g<|j*7+5)<|.bool bF).heap[g]?=H (.cells (dU<|d.set j {d[j]with full:=bF}).toArray 314 (0,0)):=by
     refine(aR v.row).trans ?_;simp only[dZ];rw[<-FP d j l {d[j]with full:=bF} rfl]
    have bk:Y (λk=>(d[j].S k\/r.F k)\/k=g) wr (bZ wr (R g<|j*7+5)<|.bool bF):=(Y.refl (λk=>(d[j].S k\/r.F k)\/k=g) wr).setCell g _ _<|.inl<|.inr rfl;have L:Y (λk=>k=g) wr (bZ wr (R g<|j*7+5)<|.bool bF):=(Y.refl (λk=>k=g) wr).setCell g _ _<|.inl rfl;have P:Sz r b (bZ wr (R g<|j*7+5)<|.bool bF) {d[j]with full:=bF}:=by
     have ao:=v.each j l;have bh:=L.same (V:=r) (n0:=b) (S:=d[j].S) v.size (λk m=>⟨(ao.own.each k m).2,λu=>(v.nS j l k m).2 u⟩) (λk m bi=>by have:=v.own.2;omega);exact⟨λu=>(ao.gives B).same bh,ao.own.same bh,λu=>by rw[B]at u;cases u⟩
    have ac:=v.put j l {d[j]with full:=bF} bk F P (λk m=>.inl m);have bd:¬z (G a)=g:=λu=>by have:=ak HH.row;omega
    have cm:¬g=z (G a):=λu=>bd u.symm;have q:ii (bZ wr (R g<|j*7+5)<|.bool bF) (z<|G a) zE:=D.aw L bd;obtain⟨bu,bx,cb,cc⟩:=q.cells;have cd:=q.free (i:=0);have ce:=q.free (i:=1);have ch:=q.free (i:=2);have cj:=q.free (i:=3);have ad:∀k,lF c g (d.set j {d[j]with full:=bF}) k->lF c g e k\/z (G a)+1<=k:=by
     intro k m;rcases Fo l (x:={d[j]with full:=bF}) (N:=z (G a)+1) (λk m=>.inl m) k m with W|W
     .exact hS k W
     .exact .inr W
    have bb:Y (λk=>lF c g e k\/r.F k) a (bZ wr (R g<|j*7+5)<|.bool bF):=hT.trans L<|λk m=>.inl<|.inl<|.inr<|.inl m;have ba:=r.fi A L (λk m hf=>by have:=n.aN k hf;have:=n.each g<|.inr<|.inl rfl;omega);have an:df (jO e)=T::df (jO<|d.set j {d[j]with full:=bF}):=by rw[Q];exact hm
    have al:y (d.set j {d[j]with full:=bF})=y e:=by rw[eK];exact V
    obtain⟨au,bc⟩:∃au,au=d.set j {d[j]with full:=bF}:=⟨_,rfl⟩;rw[<-bc]at ac ad an al;obtain⟨bl,av,bs,br,bt,bm,bn⟩:=ww ac ad an al bb ba q;have i1:(0:Z)<=(j:Z):=by omega
    have i2:(j:Z)<(y e:Z):=by omega
    have i3:j<y e:=by omega
    have i4:¬(j:Z)<0:=by omega
    rw[i]at d5;clear hm w f i t B Q F bk L P ac ad bb ba an al q v A hT D hS C K o bg O bc;obtain⟨fk,fv,fd,s⟩:=T;simp only at d1 d2 d3 d4;simp only[Fg];go_wp2;refine cI (fW rfl _ _ (z<|G a) ⟨fk,fv,fd,s⟩ _ _ rfl<|bn.put ⟨fk,fv,fd,s⟩) rfl ?_;have x:Y (λk=>k=z (G a)) (bZ wr (R g<|j*7+5)<|.bool bF) (wK (bZ wr (R g<|j*7+5)<|.bool bF) (z<|G a) ⟨fk,fv,fd,s⟩):=ja _ _ _;refine⟨r.fi bm x (λk m hf=>by have:=n.aN k hf;have:=n.size;omega),bt.trans x (λk m=>.inr<|by omega),.inr ⟨⟨fk,fv,fd,s⟩,au,bs,rfl,bl.apart x<|λk m=>?_,br,λk m=>?_⟩⟩
    .subst m;refine⟨λu=>?_,λu=>by have:=n.size;omega⟩;rcases av _ u with W|W
     .have:=(n.each _ W).2;omega
     .omega
    .rcases av k m with W|W
     .exact .inl W
     .exact .inr<|by omega
def NH(V:jj)(n f k N:M)(A:N<=1000000000000):∀(m:cA)(c:cr Hd)(w:I),df (jO c)=m->y c=N->jt V n w f k c->Hy V n 193 #[aA f] m (lF f k c) w:=by
 intro m;induction m with
 |nil=>
  intro c w g l d;refine⟨d.pA,λu a j=>(Cl c (d.same a) j<|by omega).mono ?_⟩;rintro x e⟨h,i,⟨_,b⟩|⟨B,a,b,_⟩⟩
  .exact⟨b,h,i⟩
  .rw[g]at b;cases b
 |cons v m t=>
  intro c w g l d;refine⟨d.pA,λu a j=>(Cl c (d.same a) j<|by omega).mono ?_⟩;rintro x e⟨h,i,⟨b,_⟩|⟨B,a,b,o,p,q,r⟩⟩
  .rw[g]at b;cases b
  .rw[g]at b;obtain⟨rfl,s⟩:=yI b;exact⟨o,h,i,lF f k a,r,t a e s.symm (q.trans l) p⟩
def Ir{P:Program}{t:TypeId}(i:a.heap[b]?=H (ar V t (0,0)))(g:V[c]?=H d)(v:aa)(h:v.oneCell'=bW):(store (R b c) v).run P a=.ok () (bZ a (R b c) v):=by
 have e:aT a (R b c)=H d:=(bN i).trans g;have f:=dK (i:=c) i;rw[run_store P a _ _ _ h];simp[e,f]
def As:Hd:=⟨.nilFunc,[],zE,bF,bF,λ_=>False⟩
def FO(g:aa×cA×fJ):Hd:=⟨g.1,g.2.1,zE,bF,bF,g.2.2⟩
def uu(a:cr (aa×cA×fJ))(n:M):cr Hd:=(a.take n).map FO++List.replicate (y a-n) As
def Cq(a:cr (aa×cA×fJ))(n:M)(h:n<=y a):y (uu a n)=y a:=by unfold uu;simp;omega
def RI(a:cr (aa×cA×fJ))(n:M)(h:n<y a):(uu a n).set n (FO a[n])=uu a (n+1):=by
 unfold uu;have b:y a-n=(y a-(n+1))+1:=by omega
 rw[b,List.replicate_succ,gC _ _ (by simp;omega)];rw[aj h];have:n-y ((a.take n).map FO)=0:=by simp;omega
 rw[this];simp only[aM,aY,eW,aU,cq,cC,gy]
def LJ(a:cr (aa×cA×fJ))(n:M)(h:n<y a):(uu a n)[n]?=H As:=by
 unfold uu;rw[dE (by simp;omega)];have:n-y ((a.take n).map FO)=0:=by simp;omega
 rw[this];have b:y a-n=(y a-(n+1))+1:=by omega
 rw[b,List.replicate_succ];rfl
def FQ(a:cr Hd)(i:M)(h:i<y a)(x:Hd)(c:x.fr=a[i].fr)(d:x.full=a[i].full)(e:x.ended=a[i].ended):(dU a).set (i*7) x.v=dU (a.set i x):=by
 have f:y (dU<|a.take i)=i*7:=by rw[mN];simp;omega
 have b:dU (a.set i x)=dU (a.take i)++(Hd.cells x++dU (a.drop<|i+1)):=by rw[jf,dw h];simp only[dU,fZ,dI]
 rw[b,qj a i h,gC _ _ (by omega),f,zH];simp[Hd.cells,c,d,e]
def NI(n:M):(madeCells #[.nilFunc,ai ⟨#[]⟩,ai ⟨#[]⟩,aL bF,aH 0,aL bF,aL bF]<|n*7).toList=dU (List.replicate n As):=by
 refine pO<|λj=>?_;by_cases c:j<n*7;(have a:j/7<y (List.replicate n As):=by simp;omega);have b:=se (List.replicate n As) (j/7) (j%7) a (Nat.mod_lt _<|by decide);rw[show j/7*7+j%7=j by omega]at b;rw[b,List.getElem_replicate];have f:j%7<7:=Nat.mod_lt _ (by decide);(have d:(madeCells #[.nilFunc,ai ⟨#[]⟩,ai ⟨#[]⟩,aL bF,aH 0,aL bF,aL bF]<|n*7).toList[j]?=H ((#[.nilFunc,ai ⟨#[]⟩,ai ⟨#[]⟩,aL bF,aH 0,aL bF,aL bF]:Array aa)[j%7]!):=by unfold madeCells;simp[c]);rw[d];(have:j%7=0\/j%7=1\/j%7=2\/j%7=3\/j%7=4\/j%7=5\/j%7=6:=by omega);rcases this with e|e|e|e|e|e|e<;>rw[e]<;>rfl;rw[dl (by rw[iE,size_madeCells];omega),dl (by rw[mN];simp;omega)]
def Up:(prog.info? 314).map (λi=>(i.zero,i.size,i.bytes))=H (H<|eC #[.nilFunc,ai ⟨#[]⟩,ai ⟨#[]⟩,aL bF,aH 0,aL bF,aL bF],7,64):=by kernel_rfl
def QV(p:a.ownsRow b c g (bD l 0 B B) B x):a.heap[l]?=H (ar x.toArray c (0,0)):=by
 obtain⟨q,⟨e,_⟩|⟨o,i,d,e,r,m,n,k,f,h⟩⟩:=p;cases e;cases e;(have j:d.toList=x:=by rw[<-h,cR (by rw[iE,f];exact ah _)]);rw[m,<-j]
def Ri(bl:jj)(W:M)(b:cr (aa×cA×fJ))(hr:Row a 1 d (y b) (b.map (·.1)))(an:∀u,bV d=H u->u<z (G a))(hn:y b<=1000000000)(hg:∀j(s:j<y b),ji bl W b[j].1 b[j].2.1 b[j].2.2 a)(hd:∀j bn(s:j<y b)(hj:bn<y b),j≠bn->∀u,b[j].2.2 u->¬b[bn].2.2 u)(V:W<=z (G a))(hF:∀u,bl.F u->u<W):cy bG 133 #[d] a λbp w'=>∃v' S',bp=aO v'/\ji bl W v' (df<|b.map (·.2.1)) S' w'/\Below (z<|G a) a w'/\(∀u,S' u->(∃j,∃s:j<y b,b[j].2.2 u)\/z (G a)<=u):=by
 obtain⟨i0,bd,bh,bi,bk⟩:=cz Up;obtain⟨bu,bo,bg⟩:=bM hr;obtain⟨HR,ba,HG,av,HF⟩:=jP hr an hg hd hF;clear hr an hg hd hF;subst bg;go_in
 go_wp2_with(at_make;refine wpList_make_full _ rfl (.tmp 7) (.tmp 7) 312 rfl (z<|G a) 314 i0 (eC #[.nilFunc,ai ⟨#[]⟩,ai ⟨#[]⟩,aL bF,aH 0,aL bF,aL bF]) 7 underlying312 bd bh bi _ _ _ _ (y b) rfl rfl rfl rfl (by rw[bk];omega) (by unfold maxLen;omega) (ah _) ?_;intro D B A;have q:=QV B;have v:=U q;have ax:=U A;clear B A q)
 have al:=ae ax;have au:z (G a)<z (G D):=ak v;have c:Below (z<|G a) a D:=(Below.refl _ a).grown al (ah _) (by simp);have ac:=U<|c.alloc c.size<|ar #[bD (z<|G a) 0 (y b)<|y b] 312;have o:(ct D<|ar #[bD (z<|G a) 0 (y b)<|y b] 312).heap[z<|G a]?=H (ar (dU<|uu b 0).toArray 314 (0,0)):=by rw[fX _ au,ae v];(have bp:uu b 0=List.replicate (y b) As:=by simp[uu]);rw[bp,<-NI];rfl
 have k:dV (ct D<|ar #[bD (z<|G a) 0 (y b)<|y b] 312) (z<|G D) (bD (z<|G a) 0 (y b)<|y b) 312:=aD _ rfl;have O:=U o;have K:=U k;clear al c o k;go_loopw [11] (λj wr=>∃n:M,n<=y b/\j=ap n/\wr.heap[z<|G a]?=H (ar (dU<|uu b n).toArray 314 (0,0))/\dV wr (z<|G D) (bD (z<|G a) 0 (y b)<|y b) 312/\Below (z<|G a) a wr) (λj _=>y b-(intOf j).toNat)
 case atStart=>exact⟨0,bA _,rfl,O,K,ac⟩
 case round=>
  obtain⟨n,ao,rfl,f,g,c⟩:=hrel;have bq:=g.cell;obtain⟨Q,L,E⟩:=dC f g c;by_cases i:n<y b
  .obtain⟨bm,cb,T,bb,bc⟩:=HG n i;have l:∀t e,bu=H (R t e)->aT wr (R t<|e+n)=H (.func (.func bm) #[] cb):=by
    intro t e X;obtain⟨h1,⟨x,_⟩|⟨bt,C,ad,x,bf,hc⟩⟩:=ae HR
    .rw[X]at x;cases x
    .rw[X]at x;cases x;refine(c.cell (p:=(R t<|e+n))<|ba t (by rw[X];rfl)).trans<|hc n _ ?_;rw[dz,aG i];simp[T]
   obtain⟨t,e,X⟩:∃t e,bu=H (R t e):=by
    obtain⟨h1,⟨x,w⟩|⟨bt,C,ad,x,bf,hc⟩⟩:=ae HR
    .omega
    .cases x;exact⟨bt,C,rfl⟩
   have br:=l t e X;subst X;have m:(dU<|uu b n).toArray[n*7]?=H .nilFunc:=by
    have hl:n<y (uu b n):=by rw[Cq b n ao];exact i
    have:=se (uu b n) n 0 hl (by decide);rw[qx];rw[jn]at this;rw[this];have w:=LJ b n i;rw[aG hl]at w;cases h0':(uu b n)[n]with
    |mk bT bx fr fu en bv=>
     rw[h0']at w;cases w;rfl
   have bs:=Ir (P:=bG) f m (.func (.func bm) #[] cb) rfl;have r:(bZ wr (R (z<|G a)<|n*7)<|.func (.func bm) #[] cb).heap[z<|G a]?=H (ar (dU<|uu b<|n+1).toArray 314 (0,0)):=by
    have hl:n<y (uu b n):=by rw[Cq b n ao];exact i
    have w:(uu b n)[n]=As:=by
     have:=LJ b n i;rw[aG hl]at this;exact dD this
    refine(aR f).trans ?_;simp only[dZ];rw[<-RI b n i,<-FQ (uu b n) n hl (FO b[n]) (by rw[w];rfl) (by rw[w];rfl) (by rw[w];rfl)];simp only[FO,T]
   obtain⟨S,N,F⟩:=dC r (g.other (b':=z<|G a) (i:=n*7) (.func (.func bm) #[] cb)<|by omega)<|c.setCell (p:=(R (z<|G a)<|n*7)) (ah _)<|.func (.func bm) #[] cb;clear f g c m r l bb bc T;go_wp2;go_roundw;case rel=>exact⟨n+1,i,by go_num,S,N,F⟩
   case measure=>simp[intOf];omega
  .have C:n=y b:=by omega
   subst C;clear f g c;go_wp2;go_ret;have f:=ae Q;have g:=ae L;have c:=ae E;have w:uu b (y b)=b.map FO:=by simp[uu]
   rw[w]at f;have N:Y aB a wr:=Y.aW c;have hg:=ae HG;have F:jO (b.map FO)=b.map (·.2.1):=by unfold jO;rw[iQ];rfl
   refine⟨_,lF (z<|G D) (z<|G a)<|b.map FO,rfl,⟨193,_,rfl,enters_of func193 (by kernel_rfl) rfl,?_⟩,c,?_⟩
   .refine NH bl W (z<|G D) (z<|G a) (y b) (by omega) _ (b.map FO) wr (by rw[F]) (by simp) ⟨by simpa using g,f,λj s=>?_,aE V c.size,HF,⟨by omega,V⟩,by omega,λj s u m=>?_,λj bn s hj x u m=>?_⟩
    .have l:j<y b:=by simpa using s
     have e:=hg j l;have r:=N.same (V:=bl) (n0:=W) (S:=b[j].2.2) V (λu m=>⟨(e.own.each u m).2,λt=>t⟩) cG;rw[jS];exact⟨λ_=>e.same r,e.own.same r,λt=>by cases t⟩
    .have l:j<y b:=by simpa using s
     rw[jS]at m;have:=((hg j l).own.each u m).2;exact⟨by omega,by omega⟩
    .rw[jS]at m|-;exact av j bn (by simpa using s) (by simpa using hj) x u m
   .rintro u(t|t|⟨j,s,t⟩)
    .exact .inr<|by omega
    .exact .inr<|by omega
    .rw[jS]at t;exact .inl ⟨j,by simpa using s,t⟩
def ml(V:jj)(f:M)(j:aa)(h:cA)(w:I):Prop:=∃t v i b,j=.iface t v/\(∀w,(Go.method 545 t v "From").run bG w=.ok (i,b) w)/\Enters bG i/\∀e c,jz V f aB w c->V.D c->cy bG i #[b,ai e] c λl a=>∃g d,l=aO g/\ji V f g (fR e h) d a/\V.D a/\Y V.F c a/\(∀k,d k->z (G c)<=k)
def Un:(prog.info? 174).map (λi=>(i.zero,i.size,i.bytes))=H (H .nilFunc,1,8):=by kernel_rfl
def vq(w:I)(v:aa)(t:TypeId):∀j u,[v][j]?=H u->aT (ct w<|ar #[v] t) (((R (z<|G w) 0):Addr).add j)=H u:=by
 intro j u a;rw[dt];cases j with
 |zero=>cases a;simp
 |succ j=>cases j<;>cases a
def TI(h:d.oneCell'=bW):∀u∈[d],u.oneCell'=bW:=by
 intro u a;rw[bH]at a;rw[a];exact h
structure AJ(V:jj)(n0:M)(w0 w:I)(lo:ab)(Rqq:cr (aa×cA))(o:aa)(Gqq:cr (aa×cA×fJ)):Prop where
 own:w.ownsRow (z<|G w0) 174 1 o (y Gqq) (Gqq.map (·.1))
 gives:∀i(hi:i<y Gqq),ji V n0 Gqq[i].1 Gqq[i].2.1 Gqq[i].2.2 w
 rows:Gqq.map (·.2.1)=(Rqq.take<|y Gqq).map (λr=>fR lo r.2)
 Mb:∀i j(hi:i<y Gqq)(hj:j<y Gqq),i≠j->∀k,Gqq[i].2.2 k->¬Gqq[j].2.2 k
 apart:∀i(hi:i<y Gqq)k,Gqq[i].2.2 k->z (G w0)<=k/\bV o≠H k
 aN:V.D w
 aw:Y V.F w0 w
def AJ.next{D:I}{h:cr (aa×cA)}{e:cr (aa×cA×fJ)}(w:AJ r b a f v h d e)(u:y e<y h)(hn:b<=z (G a))(hF:∀k,r.F k->k<b)(P:Y r.F f C)(K:ji r b N (fR v h[y e].2) X C)(hD:r.D C)(F:∀k,X k->z (G f)<=k){W:Obj}(V:eP (ct C W) D d s)(B:D.ownsRow (z<|G a) 174 1 s (y e+1) (e.map (·.1)++[N])):AJ r b a D v h s (e++[(N,fR v h[y e].2,X)]):=by
 have O:=w.aw.size;have j:∀k,bV d=H k->z (G a)<=k/\k<z (G f):=λk c=>w.own.lt k c;have x:∀k,b<=k->¬r.F k:=λk c a=>by have:=hF k a;omega
 have n:Y (λk=>bV d=H k) C D:=(((Y.refl (λk=>bV d=H k) C).alloc W).trans (Y.dN (S:=λk=>bV d=H k) V.grown<|λk c=>.inl c)<|λk c=>.inl c);have Q:Y (λk=>r.F k\/bV d=H k) f D:=(P.mono (T:=λk=>r.F k\/bV d=H k)<|λk c=>.inl<|.inl c).trans n<|λk c=>.inl<|.inr c;have i:∀m(p:m<y (e++[(N,fR v h[y e].2,X)])),(∃g:m<y e,(e++[(N,fR v h[y e].2,X)])[m]=e[m])\/(m=y e/\(e++[(N,fR v h[y e].2,X)])[m]=(N,fR v h[y e].2,X)):=by intro m p;by_cases l:m<y e;exact .inl ⟨l,oo l⟩;(have:m=y e:=by simp at p;omega);subst this;exact .inr ⟨rfl,by simp⟩
 have A:∀k,(k<z (G C)/\bV d≠H k)->bV s≠H k:=by rintro k⟨h1,E⟩q;rcases V.uc with l|⟨ad,l,t⟩;exact E<|l.symm.trans q;rw[l]at q;cases q;simp at t;omega
 have o:∀k,X k->k<z (G C):=λk c=>(K.own.each k c).2;refine⟨by simpa using B,λm p=>?_,?_,λm ac p hj L k c=>?_,λm p k c=>?_,?_,?_⟩;rcases i m p with⟨g,q⟩|⟨_,q⟩;rw[q];have t:=w.gives m g;refine t.same<|Q.same (aE hn O) (λk c=>⟨(t.own.each k c).2,?_⟩)<|λk c u=>?_;rintro(l|l);exact x k (t.own.each k c).1 l;exact(w.apart m g k c).2 l;rcases c with l|l;exact l;have:=(j k l).1;omega;rw[q];refine K.same<|n.same K.own.size (λk c=>⟨o k c,λl=>?_⟩)<|λk c u=>?_;have:=F k c;have:=(j k l).2;omega;have:=(j k c).1;omega;rw[aM,w.rows];simp only[aY,eW,af,ay,cL,cQ];rw[aj u,aM];rfl;rcases i m p with⟨g,q⟩|⟨ei,q⟩<;>rcases i ac hj with⟨t,E⟩|⟨ej,E⟩;rw[q]at c;rw[E];exact w.Mb m ac g t L k c;rw[q]at c;rw[E];intro l;have:=F k l;have:=((w.gives m g).own.each k c).2;omega;rw[q]at c;rw[E];intro l;have:=F k c;have:=((w.gives ac t).own.each k l).2;omega;omega;rcases i m p with⟨g,q⟩|⟨_,q⟩;rw[q]at c;have:=((w.gives m g).own.each k c).2;have t:=P.size;exact⟨(w.apart m g k c).1,A k ⟨by omega,(w.apart m g k c).2⟩⟩;rw[q]at c;have:=F k c;refine⟨by omega,A k ⟨o k c,λl=>?_⟩⟩;have:=(j k l).2;omega;exact r.fi hD n<|λk c=>x k (by have:=(j k c).1;omega);exact(w.aw.trans P<|λk c=>.inl c).trans n<|λk c=>.inr (j k c).1
def ml.same{V:jj}{n0:M}(j:ml V n0 d e a)(l:jz V n0 aB a f):ml V n0 d e f:=by
 obtain⟨t,v,o,b,c,g,h,i⟩:=j;exact⟨t,v,o,b,c,g,h,λm n j k=>i m n (l.trans j) k⟩
def Gy(s:M)(c:cr (aa×cA))(lv:aa)(A:ab)(hr:Row a 1 lv (y c) (c.map (·.1)))(X:∀n,bV lv=H n->n<z (G a)/\¬r.F n)(hn:y c<=1000000000)(hR:∀K(m:K<y c),ml r s c[K].1 c[K].2 a)(hD:r.D a)(al:s<=z (G a))(hF:∀n,r.F n->n<s):cy bG 85 #[lv,ai A] a λbo w'=>∃v' S',bo=aO v'/\ji r s v' (df<|(c.map (·.2)).map<|fR A) S' w'/\r.D w'/\Y r.F a w'/\(∀n,S' n->z (G a)<=n):=by
 obtain⟨i0,W,an,ao,au⟩:=cz Un;obtain⟨bv,bn,bk⟩:=bM hr;obtain⟨HR,ax,N,HD,HF⟩:=jP hr X hR hD hF;clear hr X hR hD hF;subst bk;go_in
 go_wp2_with(at_make;refine lG _ rfl _ _ 248 rfl (z<|G a) 174 i0 .nilFunc 1 underlying248 W an ao _ _ _ (y c) rfl rfl rfl (by rw[au];omega) (by unfold maxLen;omega) (ah _) ?_;intro w1 w v;have D:=U w;have t:=U v;clear w v)
 have T:AJ r s a w1 A c (bD (z<|G a) 0 0<|y c) []:=by have d:Y r.F a w1:=Y.dN t (by simp);exact⟨D,λK m=>by simp at m,by simp,λK j m=>by simp at m,λK m=>by simp at m,r.fi HD (Y.dN (S:=aB) t<|by simp) cG,d⟩
 have ba:=U T;clear T;go_loopw [5,13] (λo K wr=>∃(bm:M)(b:cr (aa×cA×fJ)),bm<=y c/\K=ap bm/\y b=bm/\AJ r s a wr A c o b) (λ_ K _=>y c-(intOf K).toNat)
 case atStart=>exact⟨0,[],bA _,rfl,rfl,ba⟩
 case round=>
  obtain⟨bm,b,bs,rfl,bg,d⟩:=hrel;obtain⟨ox,oc,ho⟩:=aC d.own;subst bg;by_cases p:y b<y c
  .obtain⟨bT,ca,bp,bu,ad,hm,he,i⟩:=N (y b) p;have eg:∀b a,(callFunc bp b).run bG a=.ok (.enter bp b) a:=he;have l:jz r s aB a wr:=d.aw.same al cG<|λn F _=>F;have hc:=i A wr l d.aN;obtain⟨bq,e,hx⟩:∃bq e,bv=H (R bq e):=by
    obtain⟨h1,⟨u,h0⟩|⟨bx,B,O,u,bi,hc⟩⟩:=ae HR
    .omega
    .cases u;exact⟨bx,B,rfl⟩
   have br:aT wr (R bq<|e+y b)=H (.iface bT ca):=by
    obtain⟨h1,⟨u,_⟩|⟨bx,B,O,u,bi,bh⟩⟩:=ae HR
    .rw[hx]at u;cases u
    .rw[hx]at u;cases u;have hb:=ax bq (by rw[hx];rfl);refine d.aw.cell (bh (y b) _ ?_) hb.2 hb.1;rw[dz,aG p];simp[ad]
   subst hx;subst ho;have L:=U d;clear d i l ad he;go_wp2_with(first
    |(go_at_fn bp;refine hc.mono ?_;rintro bo w2⟨v1,S1,rfl,o,Q,q,g⟩;obtain⟨P,f,rfl,V,ac⟩:=o;have C:=U<|show ji r s (.func (.func P) #[] f) (fR A c[y b].2) S1 w2 from⟨P,f,rfl,V,ac⟩;have j:=aS (q.own L.own (λn F hf=>by have:=HF n hf;have:=(L.own.lt n F).1;omega))<|.cells #[.func (.func P) #[] f] 174;have bc:=U j;have av:=U Q;have bd:=U q;have E:=U g;have bt:=q.size;have bl:=L.aw.size;clear Q q g ac j V)
    |(at_builtin;refine bS _ rfl (.tmp 17) (.tmp 21) 248 rfl (z (G a)) 174 i0 .nilFunc 1 8 underlying248 W an ao au rfl (by decide) (.slice ox (y b) oc) (y b) (b.map (λ(bv:aa×cA×fJ)=>bv.1)) rfl bc (R (z (G w2)) 0) 1 1 [.func (.func P) #[] f] rfl rfl (vq _ _ _) (TI rfl) (by omega) (by omega) (by simp;omega) ?_;intro o2 w3 k x;have bb:=U k;have bf:=U x;clear k x))
   go_roundw;case rel=>
    refine⟨y b+1,b++[(.func (.func P) #[] f,fR A c[y b].2,S1)],p,by go_num,by simp,?_⟩;exact L.next p al HF bd C av E bf bb
   case measure=>simp[intOf];omega
  .have k:y b=y c:=by omega
   subst ho;have L:=U d;have bl:=d.aw.size;have l:Row wr 1 (J ox (y b) oc) (y b) (b.map (·.1)):=dH d.own;have i:∀n,bV (J ox (y b) oc)=H n->n<z (G wr):=λn F=>(d.own.lt n F).2;have x:=Ri r s b l i (by omega) (λK m=>d.gives K m) d.Mb (by omega) HF;have e:b.map (·.2.1)=(c.map (·.2)).map (fR A):=by rw[d.rows,k,bP,iQ];rfl
   have j:=U e;clear d l i e k;go_wp2_with(go_at_call 133;refine x.mono ?_;rintro bo w2⟨v1,S1,rfl,o,f,g⟩;have C:=U o;have u:=U f;have E:=U g;clear o f g)
   go_ret;have d:=ae L;have f:=ae u;have q:Y aB wr w2:=Y.aW f;refine⟨v1,S1,rfl,?_,r.fi d.aN q cG,d.aw.ci q,λn F=>?_⟩
   .rw[<-ae j];exact C
   .rcases E n F with⟨K,m,B⟩|B
    .exact(d.apart K m n B).1
    .omega
def XB(j:M)(b:cr (aa×cA))(K:ab)(P:Z)(hr:Row a 1 d (y b) (b.map (·.1)))(g:∀k,bV d=H k->k<z (G a)/\¬r.F k)(hn:y b<=1000000000)(hR:∀ao(hi:ao<y b),ml r j b[ao].1 b[ao].2 a)(hD:r.D a)(n:j<=z (G a))(hF:∀k,r.F k->k<j):cy bG 163 #[d,ai K,aH P] a λO e=>∃t s,O=aO t/\ji r j t (mU ⟨#[]⟩<|(df<|(b.map (·.2)).map<|fR K).filter<|λO=>decide<|O.bI<=P) s e/\r.D e/\Y r.F a e/\(∀k,s k->z (G a)<=k):=by
 obtain⟨X,B⟩:∃X,ct (ct a<|ar #[aH P] 103) (ar #[ai ⟨#[]⟩] 9)=X:=⟨_,rfl⟩;have F:Y aB a X:=by rw[<-B];exact((Y.refl _ a).alloc _).alloc _
 have hz:z (G X)=z (G a)+2:=by rw[<-B];simp
 have ad:=Gy j b d K (F.row hr<|λk c=>⟨λN=>N,(g k c).1⟩) (λk c=>⟨by have:=(g k c).1;omega,(g k c).2⟩) hn (λao hi=>(hR ao hi).same<|F.same n cG cG) (r.fi hD F cG) (by omega) hF;have m:∀k,j<=k->¬r.F k:=λk c a=>by have:=hF k a;omega
 have i:∀(e:I)(t:aa)(s:fJ),ji r j t (df<|(b.map (·.2)).map<|fR K) s e->Y r.F X e->(∀k,s k->z (G X)<=k)->cy bG 217 #[t,.func (.func 219) #[] #[aA<|z<|G a,aA<|z (G a)+1]] e λO q=>∃l f,O=aO l/\ji r j l (mU ⟨#[]⟩<|(df<|(b.map (·.2)).map<|fR K).filter<|λO=>decide<|O.bI<=P) f q/\Below (z<|G e) e q/\(∀k,f k->z (G a)<=k):=by intro e t s hg p hS;have b1:dV e (z<|G a) (aH P) 103:=(p.block _ (by omega)<|m _ n).trans (by rw[<-B];exact dV.alloc (aD _ rfl) _);have b2:dV e (z (G a)+1) (ai ⟨#[]⟩) 9:=(p.block _ (by omega)<|m _<|by omega).trans (by rw[<-B];exact aD _<|by simp);refine(KT (YX r j (z<|G a) (z (G a)+1) P) ⟨#[]⟩ hg ⟨b1,b2,by omega,n,by omega⟩<|λk c N=>?_).mono ?_;have:=hS k c;rcases N with N|N<;>omega;rintro O q⟨l,f,h1,h2,h3,h4⟩;refine⟨l,f,h1,?_,h3,λk c=>?_⟩;rw[<-Wt];exact h2;rcases h4 k c with N|(N|N)|N;have:=hS k N;omega;omega;omega;have:=p.size;omega
 obtain⟨V,HT,HD⟩:=dC i F<|λL(t:Y r.F X L)(h:r.D L)(a:I)(P:Below (z<|G L) L a)=>r.fi h (Y.aW (S:=aB) P) cG;obtain⟨ax,au,al⟩:=bM hr;subst B;clear i F hR hD hF m hz g hr;subst al;go_in
 go_wp2_with(first
  |(go_at_call 85;refine ad.mono ?_;rintro O w2⟨v1,S1,rfl,D,w,o,x⟩;have i:=V w2 v1 S1 D o x;have Q:=U w;have v:=U o;obtain⟨f1,av,rfl,ac,an⟩:=D;clear w o x ac an)
  |(go_at_call 217;refine i.mono ?_;rintro O L⟨v2,S2,rfl,E,C,A⟩;have T:=U E;have u:=U C;have W:=U A;clear E C A))
 go_ret;exact⟨v2,S2,rfl,T,HD _ v Q _ u,(((HT.mono cG).trans v<|λk c=>.inl c)).trans (Y.aW (S:=r.F) u)<|λk c=>.inl c,W⟩
def gD(W:I)(l:M)(o:Obj):Y (λk=>k=l) W (W.putObj l o):=Y.dN (grownBy_putObj' W l o) (by rintro k⟨⟩;exact .inl rfl)
def PO(f:T->Array aa)(V:jj)(i q m:M)(n:Array aa)(o l:cr T->Prop)(S e:fJ)(w:I):Prop:=∀(h:M)(d:cr T->fJ->I->Prop)(g:cr T->I->Prop)(B:fJ)(W:I),jz V i S w W->V.D W->d [] B W->(∀k,S k->¬B k)->(∀a B W,d a B W->∀k,B k->i<=k/\k<z (G W))->(∀a B W b p,d a B W->Y p W b->(∀k,p k->¬B k/\e k)->d a B b)->(∀a x B W,o (a++[x])->d a B W->V.D W->YieldAt Fence.wide (q-1) bG h (f x) W λj b=>
 (j=aO (aL bW)/\V.D b/\∃c,d (a++[x]) c b/\Y B W b/\(∀k,c k->B k\/z (G W)<=k))\/(j=aO (aL bF)/\g (a++[x]) b))->
 CallsIn Fence.wide q bG m (#[.func (.yield h) #[] #[]]++n) W λj b=>(∃v,j=aO v)/\((∃k c,l k/\d k c b/\V.D b)\/(∃a,g a b))
def Ia{α:Type}(e:α->Array aa)(V:jj)(h n j:M)(l:Array aa)(m:cr α)(S:fJ)(w:I):Prop:=∀(g:M)(d:cr α->fJ->I->Prop)(f:cr α->I->Prop)(B:fJ)(W:I),jz V h S w W->V.D W->d [] B W->(∀k,S k->¬B k)->(∀a B W,d a B W->∀k,B k->h<=k/\k<z (G W))->(∀a B W b T,d a B W->Y T W b->(∀k,T k->¬B k/\(S k\/V.F k\/z (G w)<=k))->d a B b)->(∀a x B W,(a++[x])<+:m->d a B W->V.D W->YieldAt Fence.wide (n-1) bG g (e x) W λi b=>
 (i=aO (aL bW)/\V.D b/\∃c,d (a++[x]) c b/\Y B W b/\(∀k,c k->B k\/z (G W)<=k))\/(i=aO (aL bF)/\f (a++[x]) b))->
 CallsIn Fence.wide n bG j (#[.func (.yield g) #[] #[]]++l) W λi b=>(∃v,i=aO v)/\((∃c,d m c b/\V.D b)\/(∃a,f a b))
def Ia.q{α:Type}{d:α->Array aa}{l:cr α}(x:Ia d r b c g V l X a):PO d r b c g V (·<+:l) (·=l) X (λt=>X t\/r.F t\/z (G a)<=t) a:=by
 intro u v j B W k m n o p q s;apply(x u v j B W k m n o p q s).mono;rintro A w⟨f,⟨h,e⟩|e⟩;exact⟨f,.inl ⟨l,h,rfl,e⟩⟩;exact⟨f,.inr e⟩
abbrev Yl{α:Type}(a:α->Array aa)(V:jj)(e m:M)(c:M)(d:Array aa)(f b:cr α->Prop)(S:fJ)(w:I):Prop:=PO a V e m c d f b S (λk=>S k\/V.F k\/z (G w)<=k) w
def Bf(V:jj)(g:cr T->fJ->I->Prop)(f:Code->cr T->fJ->I->Prop)(e:cr T)(B:fJ)(W d:I)(b:M):Exit->Act->I->Prop
 | .normal,_,a=>V.D a/\∃c,g e c a/\Y (λk=>B k\/k=b) W a/\a.heap[b]?=d.heap[b]?/\(∀k,c k->B k\/z (G W)<=k)
 | .ret,_,a=>∃c,f .ret e c a/\Y (λk=>B k\/k=b) W a/\a.heap[b]?=d.heap[b]?/\(∀k,c k->B k\/z (G W)<=k)
 | .exit id,_,a=>∃c,f (.exit id) e c a/\Y (λk=>B k\/k=b) W a/\a.heap[b]?=d.heap[b]?/\(∀k,c k->B k\/z (G W)<=k)
 | .goto _,_,_=>False
 | .panic _,_,_=>False
 | .outgrown,_,_=>False
abbrev OR{α:Type}(i:α->Array aa)(o:M)(t:Operand)(n:Array Tmp)(c body:Code)(Q:Exit->Act->I->Prop)(a:Act)(w:I)(V:jj)(r:M)(s:cr α->Prop)(S g:fJ)(j:cr α->fJ->I->Prop)(f:Code->cr α->fJ->I->Prop)(B:fJ)(p:Prop):Prop:=(j [] B w)->(∀k,S k->¬B k)->(∀b B W,j b B W->∀k,B k->r<=k/\k<z (G W))->(∀b B W e T,j b B W->Y T W e->(∀k,T k->¬B k/\g k)->j b B e)->(∀m b B W e T,f m b B W->Y T W e->(∀k,T k->¬B k/\z (G w)<=k)->f m b B e)->(∀d b x B W,z (G w)<=d->¬B d->d<z (G W)->s (b++[x])->j b B W->V.D W->c.wpIn (Fence.wide.inRound d) (o-1-1) bG (Exit.then (λq l=>Y aB W l/\∀h,Y (λk=>k=d) l h->body.wpIn (Fence.wide.inRound d) (o-1-1) bG (Bf V j f (b++[x]) B W h d) q h) (λ_ _ _=>False)) {tmps:=(n.zip<|i x).foldl (λv(u,A)=>v.setIfInBounds u A) a.tmps,defers:=[]} W)->p->(∀(D:M)(m:Code)(b:cr α)(B:fJ)(W:I),z (G w)<=D->f m b B W->¬B D->W.heap[D]?=H (.deferred<|H [])->m.wpIn Fence.wide o bG Q {a with defers:={target:=.collected D,args:=#[]}::a.defers} W)->(Code.rangeFunc t n c body).wpIn Fence.wide o bG Q a w
def wV{arg:T->Array aa}{m:M}{bv:Operand}{ps:Array Tmp}{assign body:Code}{bu:Exit->Act->I->Prop}{a:Act}{V:jj}{n0 gf:M}{lb:Array aa}{pp ff:cr T->Prop}{S ac:fJ}(hU:∀k,z (G f)<=k->ac k)(hg:a.eval bv=.func (.func gf) #[] lb)(eg:Enters bG gf)(bn:∀bp,(arg bp).size=ps.size)(qL:PO arg V n0 (m-1) gf lb pp ff S ac f)(hD:V.D f)(ba:n0<=z (G f))(w:∀k,S k->k<z (G f))(bt:cr T->fJ->I->Prop)(Ix:Code->cr T->fJ->I->Prop)(bd:fJ):OR arg m bv ps assign body bu a f V n0 pp S ac bt Ix bd (∀(bs:cr T)(bq:M)(bd:fJ)(W:I),ff bs->z (G f)<=bq->bt bs bd W->¬bd bq->V.D W->W.heap[bq]?=H (.deferred<|H [])->bu .normal {a with defers:={target:=.collected bq,args:=#[]}::a.defers} W):=by
 intro h0 bk an L D ad al ao;refine wpIn_rangeFunc ?_;intro fn bl;obtain⟨d,g⟩:∃d:LoopState->Option Code->Loop,d=λb c=>{state:=b,pending:=c,fn,tmps:=a.tmps,params:=ps,assign,body,defers:=z (G f)}:=⟨_,rfl⟩;obtain⟨E,F⟩:∃E,ct (ct f<|.deferred<|H []) (.loop<|d .ready none)=E:=⟨_,rfl⟩;have bi:E.heap[z (G f)+1]?=H (.loop<|d .ready none):=by rw[<-F];exact aD _<|by simp
 have bh:E.heap[z<|G f]?=H (.deferred<|H []):=by rw[<-F];exact(fX _<|by simp).trans<|aD _ rfl
 have au:Y aB f E:=by rw[<-F];exact((Y.refl _ f).alloc _).alloc _
 refine⟨z (G f)+1,[{target:=.collected<|z<|G f,args:=#[]}],E,{target:=.fn (.func gf) lb,args:=#[.func (.yield<|z (G f)+1) #[] #[]]},E,gf,#[.func (.yield<|f.heap.size+1) #[] #[]]++lb,E,?_,?_,?_,?_,(λi=>(by cases i)),?_⟩;rw[<-F,g];exact run_enterLoop_outer _ _ _ _ _;(.simp only[resolve,hg];simp[go_sem]);intro b _;trivial;(.have:=eg;unfold Enters at this;simp[invoke,go_sem,this])
 .refine(qL (z (G f)+1) (λp bd W=>∃n,(∀k,bd k↔n k\/k=z (G f)\/k=z (G f)+1)/\bt p n W/\¬n (z<|G f)/\¬n (z (G f)+1)/\W.heap[z (G f)+1]?=H (.loop<|d .ready none)/\W.heap[z<|G f]?=H (.deferred<|H [])) (λp W=>∃i n,Ix i p n W/\¬n (z<|G f)/\¬n (z (G f)+1)/\W.heap[z (G f)+1]?=H (.loop<|d .done<|H i)/\W.heap[z<|G f]?=H (.deferred<|H [])) (λk=>bd k\/k=z (G f)\/k=z (G f)+1) E (au.same ba (λk o=>⟨w k o,λi=>i⟩) cG) (V.fi hD au cG) ⟨bd,λk=>qT,L _ _ _ _ _ h0 au cG,λi=>by have:=(an _ _ _ h0 _ i).2;omega,λi=>by have:=(an _ _ _ h0 _ i).2;omega,bi,bh⟩ ?_ ?_ ?_ ?_).mono ?_
  .rintro k o(i|i|i)
   .exact bk k o i
   .have:=w k o;omega
   .have:=w k o;omega
  .rintro p B' W⟨n,v,K,_,_,r,o⟩k b;rcases(v k).1 b with i|i|i
   .exact an _ _ _ K k i
   .subst i;exact⟨ba,ak o⟩
   .subst i;exact⟨by omega,ak r⟩
  .rintro p B' W l q⟨n,v,K,O,Q,r,o⟩j e;exact⟨n,v,L _ _ _ _ _ K j<|λk b=>⟨λi=>(e k b).1<|(v k).2<|.inl i,(e k b).2⟩,O,Q,(j.block _ (ak r)<|λi=>(e _ i).1<|(v _).2<|.inr<|.inr rfl).trans r,(j.block _ (ak o)<|λi=>(e _ i).1<|(v _).2<|.inr<|.inl rfl).trans o⟩
  .rintro p bp B' W bb⟨n,v,K,O,Q,r,o⟩bg;have hy:=run_yield (P:=bG) (args:=(arg bp)) r (by rw[g];exact bn bp);rw[g]at hy;refine⟨fn,_,assign,body,hy,roundIn_of_wpIn bl<|wpIn_mono (ad (z (G f)+1) p bp n W (by omega) Q (ak r) bb K bg) ?_⟩;clear hy;intro br a1 Wa N;cases br with
   |normal=>
    obtain⟨bo,N⟩:=N;have ax:Wa.heap[z (G f)+1]?=H (.loop<|d .ready none):=(bo.block _ (ak r)<|λi=>i).trans r;refine⟨_,run_beginRound ax (by rw[g]),?_⟩;have bm:(Wa.putObj (z (G f)+1)<|.loop {d .ready none with state:=.busy}).heap[z (G f)+1]?=H (.loop {d .ready none with state:=.busy}):=World.putObj_heap_same<|ak ax;refine wpIn_mono (N _<|gD _ _ _) ?_;have fin:∀(e:Option Code)(l:I),l.heap[z (G f)+1]?=(Wa.putObj (z (G f)+1)<|.loop {d .ready none with state:=.busy}).heap[z (G f)+1]?->(Instr.endRound (z (G f)+1) e).run bG l=.ok (aL e.isNone) (l.putObj (z (G f)+1)<|.loop<|d (if e.isNone then .ready else .done) e)/\(l.putObj (z (G f)+1)<|.loop<|d (if e.isNone then .ready else .done) e).heap[z (G f)+1]?=H (.loop<|d (if e.isNone then .ready else .done) e):=λe l h3=>by
     have av:=h3.trans bm;have:=run_endRound (P:=bG) e av;rw[g]at this|-;exact⟨this,World.putObj_heap_same<|ak av⟩
    have t:∀l,Y (λk=>n k\/k=z (G f)+1) W l->l.heap[z<|G f]?=H (.deferred<|H []):=λl j=>(j.block _ (ak o)<|λi=>i.elim O<|λi=>by omega).trans o;have B:∀(q:fJ),(∀k,q k->n k\/z (G W)<=k)->¬q (z<|G f)/\¬q (z (G f)+1):=λq e=>by
     have:=ak r;refine⟨λi=>?_,λi=>?_⟩
     .rcases e _ i with bc|bc
      .exact O bc
      .omega
     .rcases e _ i with bc|bc
      .exact Q bc
      .omega
    rintro br a3 l u;cases br with
    |normal=>
     obtain⟨e,q,x,j,C,s⟩:=u;obtain⟨hr,A⟩:=fin none l C;obtain⟨q1,X⟩:=B q s;have c:=gD l (z (G f)+1)<|.loop<|d (if(none:Option Code).isNone then .ready else .done) none;refine⟨_,_,hr,.inl ⟨rfl,V.fi e c<|λk b hf=>?_,λk=>q k\/k=z (G f)\/k=z (G f)+1,⟨q,λk=>qT,L _ _ _ _ _ x c (λk b=>by subst b;exact⟨X,hU _<|by omega⟩),q1,X,A,?_⟩,?_,?_⟩⟩
     .have:=V.lt hD hf;omega
     .exact(c.block _ (ak<|t l j)<|λi=>by omega).trans<|t l j
     .refine(j.trans c<|λk b=>.inl<|.inr b).mono<|λk b=>.inl<|(v k).2 ?_;rcases b with i|i
      .exact .inl i
      .exact .inr<|.inr i
     .rintro k(i|i|i)
      .rcases s k i with bc|bc
       .exact .inl<|(v k).2<|.inl bc
       .exact .inr bc
      .exact .inl<|(v k).2<|.inr<|.inl i
      .exact .inl<|(v k).2<|.inr<|.inr i
    |ret=>
     obtain⟨q,x,j,C,s⟩:=u;obtain⟨hr,A⟩:=fin (H .ret) l C;obtain⟨q1,X⟩:=B q s;have c:=gD l (z (G f)+1)<|.loop<|d (if(H Code.ret:Option Code).isNone then .ready else .done)<|H .ret;exact⟨_,_,hr,.inr ⟨rfl,.ret,q,D _ _ _ _ _ _ x c (λk b=>by subst b;exact⟨X,by omega⟩),q1,X,A,(c.block _ (ak<|t l j)<|λi=>by omega).trans<|t l j⟩⟩
    |exit id=>
     obtain⟨q,x,j,C,s⟩:=u;obtain⟨hr,A⟩:=fin (H<|.exit id) l C;obtain⟨q1,X⟩:=B q s;have c:=gD l (z (G f)+1)<|.loop<|d (if(H (Code.exit id):Option Code).isNone then .ready else .done)<|H<|.exit id;exact⟨_,_,hr,.inr ⟨rfl,.exit id,q,D _ _ _ _ _ _ x c (λk b=>by subst b;exact⟨X,by omega⟩),q1,X,A,(c.block _ (ak<|t l j)<|λi=>by omega).trans<|t l j⟩⟩
    |goto bx=>exact u.elim
    |panic ch=>exact u.elim
    |outgrown=>exact u.elim
   |exit id=>exact N.elim
   |goto bx=>exact N.elim
   |ret=>exact N.elim
   |panic bf=>exact N.elim
   |outgrown=>exact N.elim
  .rintro br l⟨⟨q,rfl⟩,(⟨bs,B',j,⟨n,v,K,O,Q,r,o⟩,e⟩|⟨p,i,n,K,O,Q,r,o⟩)⟩
   .have c:=λd=>gD l (z (G f)+1) d;exact⟨none,_,by have:=run_endLoop (P:=bG) r (by rw[g];simp);rw[g]at this;exact this,al bs _ n _ j (ah _) (L _ _ _ _ _ K (c _) (λk b=>by subst b;exact⟨Q,hU _<|by omega⟩)) O (V.fi e (c _) (λk b hf=>by have:=V.lt hD hf;omega))<|(c _).block _ (ak o) (λi=>by omega)|>.trans o⟩
   .have c:=λd=>gD l (z (G f)+1) d;exact⟨H i,_,by have:=run_endLoop (P:=bG) r (by rw[g];simp);rw[g]at this;exact this,ao _ i p n _ (ah _) (D _ _ _ _ _ _ K (c _) (λk b=>by subst b;exact⟨Q,by omega⟩)) O<|(c _).block _ (ak o) (λi=>by omega)|>.trans o⟩
def nw{α:Type}{arg:α->Array aa}{m:M}{A:Operand}{s:Array Tmp}{b body:Code}{Q:Exit->Act->I->Prop}{a:Act}{V:jj}{n0 gf:M}{lb:Array aa}{l:cr α}{S:fJ}(x:a.eval A=.func (.func gf) #[] lb)(u:Enters bG gf)(o:∀E,(arg E).size=s.size)(qL:Ia arg V n0 (m-1) gf lb l S f)(w:V.D f)(n:n0<=z (G f))(g:∀q,S q->q<z (G f))(t:cr α->fJ->I->Prop)(r:Code->cr α->fJ->I->Prop)(B:fJ):OR arg m A s b body Q a f V n0 (·<+:l) S (λq=>S q\/V.F q\/z (G f)<=q) t r B (∀(D:M)(B:fJ)(W:I),z (G f)<=D->t l B W->¬B D->V.D W->W.heap[D]?=H (.deferred<|H [])->Q .normal {a with defers:={target:=.collected D,args:=#[]}::a.defers} W):=λv i k p h c d e=>wV (λ_ C=>.inr<|.inr C) x u o qL.q w n g t r B v i k p h c (λ_ D B W j=>j▸d D B W) e
abbrev Sw(x:E):Array aa:=#[x.value,.nilIface]
abbrev Iter:=@Ia E Sw
section
open Go.Shelf
def ET(cT:M)(cb:Array aa)(hb:dV a c (.func (.func g) #[] cb) 174)(he:Enters bG g)(hr:Hy r b g cb e X a)(ck:b<=c)(cm:¬X c):Iter r b cT 192 #[aA c] e (λk=>X k\/k=c) a:=by
 intro lr cx Jx cM cB hs hD hJ bm au br hY;have eg:∀b a,(callFunc g b).run bG a=.ok (.enter g b) a:=he;have bn:dV cB c (.func (.func g) #[] cb) 174:=hb.same hs<|.inr rfl;have bq:Hy r b g cb e X cB:=hr.same<|hs.mono<|λ_ d=>.inl d;have bs:=hs.1;obtain⟨bu,cc,HD,HJ,bc,W,L,HY⟩:=EM bn bq hD hJ bm au br hY;clear hs hD hJ bm au br hY hb hr bn bq he;refine qS func192 rfl trivial ?_ rfl;simp only[ntmps192,eR,ay,cL,Nat.reduceAdd,Nat.reduceSub,dS,dR,eS,er,cC,cq];gi_wp2;gi_loopg [3] (y e+1) (λd _ wr=>∃i q S' v,e=i++q/\y q<d/\Hy r b g cb q S' wr/\dV wr c (.func (.func g) #[] cb) 174/\r.D wr/\cx i v wr/\(∀k,S' k->¬v k)/\¬v c/\¬S' c/\(∀k,S' k->X k\/z (G a)<=k)/\z (G a)<=z (G wr))
 case atStart=>exact⟨[],e,X,cM,rfl,by omega,ae cc,ae bu,ae HD,ae HJ,λk d=>(ae bc) k<|.inl d,(ae bc) c<|.inr rfl,cm,λk d=>.inl d,bs⟩
 case round=>
  obtain⟨i,q,S',v,hl,bo,p,Q,O,j,n,ad,an,D,cs⟩:=hrel;have cd:=U D;have cp:=Q.cell;have V:=U Q;have bT:=U j;have bd:=U n;obtain⟨ax,bf,HL⟩:=dC ad an hl;have o:=p.own;have bb:=U o;have F:∀k,b<=k->¬r.F k:=λk d a=>by have:=o.aN k a;omega
  have cj:=U F;cases q with
  |nil=>
   have hc:=p.2 wr (jz.refl _ _ _ _) O;have HT:=U<|λm(X:Y (λk=>S' k\/r.F k) wr m)=>(ae L) i v wr m _ j X<|λk d=>⟨λs=>d.elim (λt=>n k t s)<|λt=>F k ((ae W) _ _ _ j k s).1 t,d.elim (λt=>(D k t).elim (λs=>.inl<|.inl s)<|λs=>.inr<|.inr s)<|λt=>.inr<|.inl t⟩;clear p Q O j n ad an hl o F bo D;gi_wp2_with(refine⟨trivial,(λs=>(by cases s)),?_⟩;gi_at_fn g;refine(cX.2 hc).mono ?_;rintro cE m⟨rfl,C,l⟩;have f:=U C;have ba:=U<|(ae HT) m l;clear C l;unfold wO)
   refine⟨λ_ h=>(by cases h),?_⟩;gi_wp2;refine cI (iP rfl _ _ _) rfl ?_;refine⟨⟨_,rfl⟩,.inl ⟨v,?_,r.fi (ae f) ((Y.refl aB m).alloc _) cG⟩⟩;have hl:=ae HL;rw[dJ]at hl;rw[hl];exact(ae L) i v m _ _ (ae ba) ((Y.refl aB m).alloc _) cG
  |cons cv cu=>
   have hc:=p.2 wr (jz.refl _ _ _ _) O;have bp:(i++[cv])<+:e:=⟨cu,by rw[hl];simp⟩;have HT:=U<|λm(X:Y (λk=>S' k\/r.F k) wr m)=>(ae L) i v wr m _ j X<|λk d=>⟨λs=>d.elim (λt=>n k t s)<|λt=>F k ((ae W) _ _ _ j k s).1 t,d.elim (λt=>(D k t).elim (λs=>.inl<|.inl s)<|λs=>.inr<|.inr s)<|λt=>.inr<|.inl t⟩;have N:=U<|λa(c:cx i v a)(b:r.D a)=>(ae HY) i cv v a bp c b;clear p Q O j n ad an hl o F D;obtain⟨x,A,w,f⟩:=cv;unfold Sw at N;unfold E.value at hc N;simp only at hc N;gi_wp2_with(refine⟨trivial,(λs=>(by cases s)),?_⟩;gi_at_fn g;refine(cX.2 hc).mono ?_;rintro cE m⟨rfl,C,l,S1,bl,u⟩;have al:=(ae L) i v m _ _ ((ae HT) m l) ((Y.refl aB m).alloc<|ar #[ai x,ai A,aL w,aH f] 164) cG;have bh:=r.fi C ((Y.refl aB m).alloc<|ar #[ai x,ai A,aL w,aH f] 164) cG;obtain⟨fn,co,bt,body,hy,hR⟩:=(ae N) _ al bh;have HR:=U hR;have ba:=U al;have ce:=U l;have ac:=U bl;have ca:=U u;clear C l bl u al bh hR)
   refine⟨(λs=>(by cases s)),(ae HR).mono ?_⟩;rintro cE W3(⟨rfl,bi,B3,bk,P,bg⟩|⟨rfl,hx⟩)
   .have bv:=U bi;obtain⟨bx,ch,av⟩:=dC bk P bg;clear bi bk P bg;gi_wp2;gi_roundg (y cu+1)
    case measure=>simpa using bo
    case rel=>
     have l:=ae ce;have P:=ae ch;have u:=ae ca;have o:=ae bb;have j:=ae bT;have B:=(ae W) _ _ _ j;have cn:Y aB m (ct m<|ar #[ai x,ai A,aL w,aH f] 164):=(Y.refl _ _).alloc _;have S:∀k,S1 k->¬v k:=λk d s=>by
      rcases(ae ac) k d with t|t
      .exact(ae bd) k t s
      .have:=(B k s).2;omega
     have cl:=u.own.size;have K:Y v m W3:=(cn.mono (T:=v) cG).trans P<|λk d=>.inl d;have ao:dV m c (.func (.func g) #[] cb) 174:=by
      refine(l.block c (ak<|ae V) ?_).trans<|ae V;rintro(s|s)
      .exact(ae bf) s
      .exact(ae cj) c ck s
     refine⟨i++[⟨x,A,w,f⟩],cu,S1,B3,by rw[ae HL];simp,by omega,u.same<|K.same cl (λk d=>⟨(u.own.each k d).2,S k d⟩) (λk d au=>by have:=(B k d).1;omega),(K.block c (ak ao)<|ae ax).trans ao,ae bv,ae bx,λk d s=>?_,λs=>?_,λs=>?_,?_,?_⟩
     .rcases(ae av) k s with t|t
      .exact S k d t
      .have:=(u.own.each k d).2;simp at t;omega
     .rcases(ae av) c s with t|t
      .exact(ae ax) t
      .have:=ak ao;simp at t;omega
     .rcases(ae ac) c s with t|t
      .exact(ae bf) t
      .have:=ak<|ae V;omega
     .intro k d;rcases(ae ac) k d with t|t
      .exact(ae cd) k t
      .exact .inr<|by omega
     .have:=l.size;have:=K.size;omega
   .have B:=U hx;clear hx;gi_wp2;refine cI (iP rfl _ _ _) rfl ?_;exact⟨⟨_,rfl⟩,.inr ⟨_,ae B⟩⟩
end
