import Derived.Test.YtophdnlmpfmeiaaGreatDoorC21
namespace Go.Proofs.YtophdnlmpfmeiaaGreatDoor
open ChangeShapes WideShapes RowKit Proofs.Tryz
set_option maxHeartbeats 16000000
set_option linter.all false
set_option maxRecDepth 100000
def fw(n:Int)(l:List E):List Int:=le 8 n++((l.length:Int)::l.flatMap jO)
def xK(n:Int)(l:List E):List Int:=fS (le 4 (fw n l).length++le 4 (jv (fw n l)))++fw n l
def wV{x:E}(h:x.Good):(jO x).length<=35:=by
 have:=pS h;unfold qp at this;rw[ag]at this;omega
def lK{l:List E}(h:∀x∈l,x.Good):(l.flatMap jO).length<=35*l.length:=by
 induction l with
 |nil=>simp
 |cons x r b=>
  have a:=wV (h x (by simp));have c:=b (λy a=>h y (by simp[a]));rw[cF,ag,aE];omega
structure NW(w0 w:J)(hv bv:M)(hs bs:List Int):Prop where
 head:dq w w0.heap.size hv hs
 body:dq w w0.heap.size bv bs
 ne:∀k,hv.ownBlock=some k->bv.ownBlock≠some k
 ay:I (λ_=>False) w0 w
def NW.wrote{f w e:J}{o i b:M}{s g d:List Int}(h:NW f w o i s g)(p:du w e o b)(r:dq e f.heap.size b d):NW f e b i d g:=by
 have m:=I.dU p;refine⟨r,m.own h.body (λk a c=>h.ne k c a),λk a j=>?_,h.ay.trans m (λk a=>.inr (h.head.lt k a).1)⟩;rcases p.sr with q|⟨y,q,t⟩
 ·exact h.ne k (q.symm.trans a) j
 ·rw[q]at a;cases a;have:=(h.body.lt _ j).2;omega
def FH(l:List E)(an f bo:Nat)(w:J)(hT:Steps w)(hg:an<w.heap.size)(hc:∀cx cv,(aF l)[cx]?=some cv->w.cell? ⟨an,f+cx,none⟩=some cv)(k:0<l.length)(b:∀ac∈l,ac.Good)(hl:l.length<=8):Calls prog 113 #[.slice (some ⟨an,f,none⟩) l.length bo] w λal w'=>∃v',al=.returned v'/\dq w' w.heap.size v' (xK (l[0]'k).bV l)/\I (λ_=>False) w w':=by
 obtain⟨i0,bv,cj,ck,cl⟩:=bK mr;have u:=b _ (au k);have cs:=lK b;have bp:w.cell? ⟨an,f+3,none⟩=some (.int .u64 (l[0]'k).bV):=by have:=hc _ _ (dP l 0 k).2.2.2;simpa using this
 obtain⟨r,hn⟩:∃r,(l[0]'k).bV=r:=⟨_,rfl⟩;have F:=u.b0;have G:=u.b1;rw[hn]at F G bp|-;have ca:=lG w.heap.size (.slice none 0 0) [] r w (dq.nil _ _) (ai _) (by simp) F G;have e1:IntKind.u8.wrap (l.length:Int)=l.length:=by rw[IntKind.wrap_u8];omega
 have HC:=Z hc;have HG:=Z b;have HT:=Z hT;clear hc b u hn hT;go_enter func113,ntmps113
 go_wp2_with fail
 refine ca.mono ?_;rintro al w1⟨v1,rfl,y,S⟩;have A:I (λ_=>False) w w1:=(I.dU S).mono (λao g=>by simp[Value.ownBlock]at g);have bT:=pO w.heap.size v1 ([]++le 8 r) (l.length:Int) w1 y A.size (by simp[bw]);have bb:=Z y;have bi:=Z A;clear y A S;go_wp2_with fail
 refine bT.mono ?_;rintro al w2⟨v2,rfl,H,U⟩;have bk:=Z ((Y bi).trans (I.dU U) (λao g=>.inr ((Y bb).lt ao g).1));have bd:=Z H;clear H U;go_wp2;go_loopw [3,19] (λo i wr=>∃m:Nat,m<=l.length/\i=.int .i64 m/\dq wr w.heap.size o (le 8 r++((l.length:Int)::(l.take m).flatMap jO))/\I (λ_=>False) w wr) (λ_ i _=>l.length-(intOf i).toNat)
 case atStart=>exact⟨0,aU _,rfl,by simpa using Y bd,Y bk⟩
 case round=>
  obtain⟨m,hm,rfl,a,c⟩:=hrel;have ce:=c.size;by_cases q:m<l.length
  ·have j:=(Y HG) l[m] (au q);have d:=dP l m q;have B:wr.cell? ⟨an,f+m*4,none⟩=some (.string l[m].key):=c.cell ((Y HC) _ _ d.1) id hg;have C:wr.cell? ⟨an,f+m*4+1,none⟩=some (.string l[m].val):=c.cell (by rw[aP];exact(Y HC) _ _ d.2.1) id hg;have D:wr.cell? ⟨an,f+m*4+2,none⟩=some (.bool l[m].del):=c.cell (by rw[aP];exact(Y HC) _ _ d.2.2.1) id hg;have K:wr.cell? ⟨an,f+m*4+3,none⟩=some (.int .u64 l[m].bV):=c.cell (by rw[aP];exact(Y HC) _ _ d.2.2.2) id hg;have o:(le 8 r++((l.length:Int)::(l.take m).flatMap jO)).length<=1000:=by
    have N:=lK (l:=l.take m) (λac hx=>(Y HG) ac (dC hx));have O:(l.take m).length<=8:=by simp;omega
    rw[ag,aE,bw];omega
   have z:=Z (show(le 8 r++((l.length:Int)::(l.take m).flatMap jO))++jO l[m]=le 8 r++((l.length:Int)::(l.take (m+1)).flatMap jO)from by
    rw[aq q,dZ];simp)
   clear d;generalize l[m]=ac at*;have e:=GZ w.heap.size u3 (le 8 r++((l.length:Int)::(l.take m).flatMap jO)) ac (wr.alloc (.cells #[.string ac.key,.string ac.val,.bool ac.del,.int .u64 ac.bV] 177)) (a.alloc _) (by simp;omega) (by omega) (by have:=j.Ed;omega) (by have:=j.val;omega);generalize(le 8 r++((l.length:Int)::(l.take m).flatMap jO))=L at*;have x:=a.lt;have s:=Z c;clear a c j o;obtain⟨R,V,Q,P⟩:=ac;simp only at B C D K e;unfold E.value at e;simp only at e;go_wp2_with fail
   refine e.mono ?_;rintro al X⟨v3,rfl,n,h⟩;have p:=Z n;have t:=Z h;clear n h;go_wp2;go_roundw;case rel=>
    refine⟨m+1,q,by go_num,by rw[<-Y z];exact Y p,?_⟩;exact((Y s).alloc _).trans (I.dU (Y t)) (λao g=>.inr (x ao g).1)
   case measure=>simp[intOf];omega
  ·have bx:m=l.length:=by omega
   subst bx;rw[bD]at a;have bq:(fw r l).length<=1000:=by unfold fw;rw[ag,aE,bw];omega
   have s:0<(fw r l).length:=by unfold fw;rw[ag,bw];omega
   have e:dq wr w.heap.size u3 (fw r l):=a;obtain⟨bg,bc,ch,_,_,_⟩:=qg e s;subst ch;obtain⟨d,j⟩:∃d,(fw r l).length=d:=⟨_,rfl⟩;have C:=Z (show xK r l=fS (le 4 (d:Nat)++le 4 (jv (fw r l)))++fw r l by rw[<-j];rfl);rw[j]at bq s;have cb:=gQ w.heap.size (.slice none 0 0) [] (d:Nat) wr (dq.nil _ _) ce (by simp) (by omega) (by omega);have e2:IntKind.u32.wrap (d:Int)=d:=oP (by omega) (by omega);have HO:=Z e;have bl:=Z c;rw[j];have p:=Z j;clear a e c j;generalize fw r l=ad at*;go_wp2_with fail
   refine cb.mono ?_;rintro al X⟨v3,rfl,n,h⟩;have hA3:NW w X v3 (.slice (some ⟨bg,0,none⟩) d bc) ([]++le 4 (d:Nat)) ad:=by
    have Q:I (λ_=>False) wr X:=(I.dU h).mono (λao g=>by simp[Value.ownBlock]at g);have O:dq wr w.heap.size (.slice (some ⟨bg,0,none⟩) d bc) ad:=by have:=Y HO;rw[Y p]at this;exact this
    refine⟨n,Q.own O (λ_ _ cn=>cn),λao g hb=>?_,(Y bl).trans Q (λ_ cn=>cn.elim)⟩;rcases h.sr with cp|⟨cB,cp,hy⟩
    ·rw[cp]at g;cases g
    ·rw[cp]at g;cases g;have:=(O.lt _ hb).2;omega
   have z:∀W,I (λ_=>False) w W->Steps W:=λW a=>(Y HT).below (a.below (ai _) (λ_ cn=>cn.elim)) (Y HT).lt;have cd:=lB (.slice (some ⟨bg,0,none⟩) d bc) ad X (z _ hA3.ay) (dq.bytes hA3.body) (by rw[Y p];omega);have t:=Z hA3;have bh:=Z z;clear hA3 n h z;go_wp2_with fail
   refine cd.mono ?_;rintro al w4⟨rfl,B⟩;subst w4;have bs:=uw ad;have br:=wv ad;have P:=gQ w.heap.size v3 ([]++le 4 (d:Nat)) (jv ad) X (Y t).head (Y t).ay.size (by simp[bw]) bs br;generalize jv ad=D at*;go_wp2_with fail
   refine P.mono ?_;rintro al w4⟨v4,rfl,K,B⟩;have hA4:=(Y t).wrote B K;have cc:=yG w.heap.size v4 (([]++le 4 (d:Nat))++le 4 D) w4 ((Y bh) _ hA4.ay) hA4.head hA4.ay.size (by simp[bw]);have ax:=Z hA4;clear K B hA4;go_wp2_with fail
   refine cc.mono ?_;rintro al w5⟨v5,rfl,L,V⟩;have hA5:=(Y ax).wrote V L;have x:((([]++le 4 (d:Nat))++le 4 D)++le 4 (jv (([]++le 4 (d:Nat))++le 4 D))).length=12:=by simp[bw]
   obtain⟨hx,bt,R⟩:=aC hA5.head;rw[x]at R;subst R;have cm:=hA5.ay.size;have o:=Z hA5;have ba:=Z x;clear L V hA5 x;go_wp2_with(first
    |(at_builtin;go_loud(refine aX _ rfl (.tmp 36) (.tmp 37) 119 rfl w.heap.size 5 i0 (.int .u8 0) 1 1 underlying119 bv cj ck cl rfl (by decide) (.slice hx 12 bt) 12 (((([]++le 4 (d:Nat))++le 4 D)++le 4 (jv (([]++le 4 (d:Nat))++le 4 D))).map (Value.int .u8)) rfl (by have h0:=(Y o).head;unfold dq at h0;rw[Y ba]at h0;exact h0) ⟨bg,0,none⟩ d bc (ad.map (Value.int .u8)) rfl (by rw[bW,Y p,nw]) (py (dq.bytes (Y o).body)) (by intro cv hu;simp only[aZ]at hu;obtain⟨cB,_,rfl⟩:=hu;rfl) (by omega) (by omega) cm ?_;intro v6 w6 N W;have bf:=Z N;have bn:=Z W;clear N W)))
   go_ret;refine⟨_,rfl,?_,(Y o).ay.trans (I.dU (Y bn)) (λao g=>.inr ((Y o).head.lt ao g).1)⟩;rw[Y C];refine dq.of (Y bf) ?_ ?_
   ·rw[ag,eF,Y p,ag,bw,bw]
   ·unfold fS;simp
def DR(H c b bn:Nat)(B a:List Int)(G:J)(hT:Steps G)(bs:0<B.length)(hB:B.length<=100000)(hR:a.length<=1000000000)(hL:bn=12+B.length+a.length)(bt:bn<=b)(ce:b<=9223372036854775807)(hb:Bytes G (.slice (some ⟨H,c,none⟩) bn b) (fS (le 4 B.length++le 4 (jv B))++B++a)):Calls prog 129 #[.slice (some ⟨H,c,none⟩) bn b] G λX w'=>∃ck bo,X=.returned (.tuple #[.slice (some ⟨H,c+12,none⟩) B.length (b-12),.slice (some ⟨H,ck,none⟩) a.length bo,.bool true])/\a.length<=bo/\bo<=9223372036854775807/\Bytes G (.slice (some ⟨H,c+12,none⟩) B.length (b-12)) B/\Bytes G (.slice (some ⟨H,ck,none⟩) a.length bo) a/\I (λ_=>False) G w':=by
 have C:H<G.heap.size:=hb.lt (by intro X;have:=bB List.length X;simp[fS,bw]at this) H rfl;have D:(fS (le 4 B.length++le 4 (jv B))).length=12:=by simp[fS,bw]
 have k:(fS (le 4 B.length++le 4 (jv B))++B++a).length=bn:=by rw[ag,ag,D,hL]
 rw[<-k]at hb;have e:=hb.take (n:=12) (by rw[k];omega);have d:=hb.uv (n:=12) (by rw[k];omega);rw[aV,fQ (by omega),bP (by omega)]at e;rw[k,aV,List.drop_append_of_le_length (by omega),jH (by omega),cL]at d;obtain⟨bk,hM⟩:∃bk,bn-12=bk:=⟨_,rfl⟩;obtain⟨K,hC⟩:∃K,b-12=K:=⟨_,rfl⟩;rw[hM,hC]at d;have y:(B++a).length=bk:=by rw[ag];omega
 rw[<-y]at d;have o:=d.take (n:=B.length) (by simp);rw[lX]at o;have A:=d.uv (n:=B.length) (by simp);rw[kg,y]at A;have bh:=sK H c b (le 4 B.length++le 4 (jv B)) G hT (by simp[bw];omega) (by simp[bw]) (by
  have:(le 4 B.length++le 4 (jv B)).length+4=12:=by simp[bw]
  rw[this];exact e)
 have bb:(le 4 B.length++le 4 (jv B)).length=8:=by simp[bw]
 rw[bb]at bh;have s:Bytes G (.slice (some ⟨H,c,none⟩) 8 b) (le 4 B.length++le 4 (jv B)):=by
  rw[<-D]at e;have q:=e.take (n:=8) (by omega);have e8:(fS (le 4 B.length++le 4 (jv B))).take 8=le 4 B.length++le 4 (jv B):=by unfold fS;rw[fQ (by omega),bP (by omega)]
  rw[e8]at q;exact q
 have z:bk-B.length=a.length:=by omega
 obtain⟨g,j⟩:∃g,B.length=g:=⟨_,rfl⟩;obtain⟨RL,l⟩:∃RL,a.length=RL:=⟨_,rfl⟩;obtain⟨V,p⟩:∃V,jv B=V:=⟨_,rfl⟩;have w:∀W,I (λ_=>False) G W->Calls prog 173 #[.slice (some ⟨H,c+12,none⟩) g K] W λX w'=>X=.returned (.int .u32 V)/\w'=W:=by
  intro W hW;have q:=hW.below (ai _) (λ_ bo=>bo.elim);rw[<-j,<-p];exact lB _ B W (hT.below q hT.lt) (o.below q (λL r=>by cases r;exact C)) (by omega)
 have ad:=uw B;have al:=wv B;rw[p]at ad al;have O:=Z s;have Q:=Z w;have U:=Z o;have bq:=Z A;rw[j,l]at z hL;rw[j]at bs hB;rw[l]at hR;have h:=Z j;have P:=Z l;have br:=Z p;have e1:(12:Int)<=(bn:Int):=by omega
 have e2:(bn:Int)<=(b:Int):=by omega
 have e3:¬(bn:Int)<12:=by omega
 have e4:¬(b=12):=by omega
 have e5:¬(b-12=0):=by omega
 have e6:(12:Int)<=(b:Int):=by omega
 have e7:(g:Int)<=(bk:Int):=by omega
 have e8:(g:Int)<=(K:Int):=by omega
 have e9:¬((bk:Int)<(g:Int)):=by omega
 have bT:IntKind.u64.wrap (g:Int)=g:=by rw[eZ];omega
 have ca:IntKind.u64.wrap (bk:Int)=bk:=by rw[eZ];omega
 have cb:(bk:Int)<=(K:Int):=by omega
 have bx:∀(cj:Bool)(G:J),(Op.unary .not (.bool cj)).run prog G=.ok (.bool (!cj)) G:=λ_ _=>rfl;have cd:RL+g<=K:=by omega
 have cc:K<=9223372036854775807:=by omega
 clear hb e d s w o A hT j l p hL k y D bb;rw[Y h,Y P,hC];go_enter func129,ntmps129
 go_wp2_with fail
 refine bh.mono ?_;rintro X w1⟨rfl,m⟩;have bf:I (λ_=>False) G w1:=I.aR m;have ba:=iN (.slice (some ⟨H,c,none⟩) 8 b) (le 4 B.length++le 4 (jv B)) w1 ((Y O).below m (λL r=>by cases r;exact C)) (by intro L r;cases r;exact ah C m.size);have R:=Z bf;clear m bf;go_wp2_with fail
 refine ba.mono ?_;rintro X w2⟨rfl,t,F⟩;have bg:I (λ_=>False) w1 w2:=by rw[F];exact(I.refl _ w1).alloc _
 have ch:w1.heap.size<w2.heap.size:=by rw[F];simp
 have bi:=oa w1.heap.size (g:Nat) (le 4 (jv B)) w2 (by rw[<-Y h];exact t) (iq.le 4 _) (by simp[bw]) (by omega) (by omega);have bp:=Z bg;clear t F bg ba;go_wp2_with fail
 refine bi.mono ?_;rintro X w3⟨rfl,v,an⟩;have x:=oa w1.heap.size V [] w3 (by rw[<-Y br];simpa using v) (by intro cj hx;cases hx) (by simp) ad al;have ao:=Z an;clear v an bi;go_wp2_with fail
 refine x.mono ?_;rintro X N⟨rfl,bc,ax⟩;have E:I (λ_=>False) G N:=by
  have h3:I (λL=>L=w1.heap.size) w2 N:=(I.bz (S:=λL=>L=w1.heap.size) (Y ao) (by rintro L⟨⟩;exact .inl rfl)).trans (I.bz (S:=λL=>L=w1.heap.size) ax (by rintro L⟨⟩;exact .inl rfl)) (λ_ bl=>.inl bl);exact((Y R).trans (Y bp) (λ_ bo=>bo.elim)).trans h3 (λL r=>.inr (by have:=(Y R).size;omega))
 have bd:∀W,W.heap=N.heap->W.os=N.os->W.tape=N.tape->W.output=N.output->Calls prog 173 #[.slice (some ⟨H,c+12,none⟩) g K] W λX w'=>X=.returned (.int .u32 V)/\w'=W:=λW a b h3 d=>(Y Q) W (E.of_heap (by rw[a,b,h3,d]));have T:=Z E;clear bc ax x E;by_cases ac:K=g
 ·obtain rfl:RL=0:=by omega
  obtain rfl:bk=K:=by omega
  subst ac;clear z;go_wp2_with fail
  go_quiet(first|(go_at_call 173;refine Calls.quiet_of_same (bd _ rfl rfl rfl rfl)))
  go_wp2;go_ret3
  refine⟨c+12,0,rfl,ai _,by omega,?_,?_,(Y T).of_heap rfl⟩
  ·have bl:=Y U;rw[Y h]at bl;exact bl
  ·obtain rfl:=aG (Y P);exact .inr ⟨H,c+12,0,rfl,ai _,λL r=>absurd r (fy L)⟩
 ·have q:¬(K-g=0):=by omega
  have d2:¬(K=g):=ac;go_wp2_with fail
  go_quiet(first|(go_at_call 173;refine Calls.quiet_of_same (bd _ rfl rfl rfl rfl)))
  go_wp2;go_ret3
  refine⟨c+12+g,K-g,rfl,by omega,by omega,?_,?_,(Y T).of_heap rfl⟩
  ·have bl:=Y U;rw[Y h]at bl;exact bl
  ·have bl:=Y bq;rw[Y h,z]at bl;exact bl
structure On(w0 w:J)(rb:Nat)(l:List E)(o:M)(m:Nat):Prop where
 own:w.ownsRow w0.heap.size 177 4 o m (aF (l.take m))
 rd:Rd w rb ((l.drop m).flatMap jO) false
 ay:I (λ_=>False) w0 w
 KN:w0.heap.size<=rb
 pV:∀k,o.ownBlock=some k->rb<k
def zv{l:List E}(h:∀x∈l,x.Good):iq (l.flatMap jO):=by
 intro x a;obtain⟨e,b,a⟩:=iP.1 a;exact vt (h e b) x a
def yr(cl N B:Nat)(l:List E)(bg:Int)(w:J)(hg:∀P∈l,P.Good)(hn:∀P∈l,P.bV=bg)(cc:0<=bg)(cd:bg<18446744073709551616)(h1:1<=l.length)(h8:l.length<=8)(hb:Bytes w (.slice (some ⟨cl,N,none⟩) (fw bg l).length B) (fw bg l)):Calls prog 130 #[.slice (some ⟨cl,N,none⟩) (fw bg l).length B,.int .u64 bg] w λbh w'=>
 ∃a,bh=.returned (.tuple #[a,.bool true])/\w'.ownsRow w.heap.size 177 4 a l.length (aF l)/\I (λ_=>False) w w':=by
 obtain⟨i0,an,bc,bd,bf⟩:=bK mY
 have cb:=lK hg
 have ca:cl<w.heap.size:=hb.lt (by unfold fw;intro bh;have:=bB List.length bh;simp[bw]at this) cl rfl
 have G:=iN (.slice (some ⟨cl,N,none⟩) (fw bg l).length B) (fw bg l) w hb (by intro k e;cases e;exact ca)
 obtain⟨V,hN⟩:∃V,l.length=V:=⟨_,rfl⟩
 obtain⟨BL,X⟩:∃BL,(fw bg l).length=BL:=⟨_,rfl⟩
 rw[X]at G|-
 have cp:∀(P:Bool)(w:J),(Op.unary .not (.bool P)).run prog w=.ok (.bool (!P)) w:=λ_ _=>rfl
 have A:=Z hN
 have HG:=Z hg
 have bk:=Z hn
 rw[hN]at h1 h8
 clear hb hg hn X hN
 go_enter func130,ntmps130
 go_wp2_with fail
 refine G.mono ?_
 rintro bh w1⟨rfl,t,H⟩
 have bb:I (λ_=>False) w w1:=by rw[H];exact(I.refl _ w).alloc _
 have cv:w.heap.size<w1.heap.size:=by rw[H];simp
 have r:=zv (Y HG)
 have cn:(l.flatMap jO).length<=280:=by rw[Y A]at cb;omega
 have ao:=vh w.heap.size bg ((V:Int)::l.flatMap jO) w1 (by have cm:=t;unfold fw at cm;rw[Y A]at cm;exact cm) (by intro P L;rcases aD.1 L with rfl|L;omega;exact r P L) (by rw[aE];omega) cc cd
 have bs:=Z bb
 clear t H bb G
 go_wp2_with fail
 refine ao.mono ?_
 rintro bh w2⟨rfl,v,C⟩
 have ad:=NR w.heap.size (V:Int) (l.flatMap jO) w2 v r (by omega) (by omega) (by omega)
 have cx:=C.size
 have bl:=Z C
 clear v C ao
 go_wp2_with fail
 refine ad.mono ?_
 rintro bh w3⟨rfl,x,D⟩
 have br:=Z x
 have cB:=D.size
 have bn:=Z D
 clear x D ad
 have e1:¬((V:Int)<1):=by omega
 have e2:¬((8:Int)<(V:Int)):=by omega
 go_wp2_with(first
  |(at_make;go_loud(refine gO _ rfl _ _ 101 rfl w.heap.size 177 i0 tQ 4 underlying101 an bc bd _ _ _ V rfl rfl (by omega) (by rw[bf];omega) (by unfold maxLen;omega) (by omega) ?_;intro w4 s p;have bo:=Z s;have z:=Z p;clear s p)))
 have db:=(Y z).size
 have hA0:On w w4 w.heap.size l (.slice (some ⟨w3.heap.size,0,none⟩) 0 V) 0:=by
  have a:I (λk=>k=w.heap.size) w1 w3:=(I.bz (S:=λk=>k=w.heap.size) (Y bl) (by rintro k⟨⟩;exact .inl rfl)).trans (I.bz (S:=λk=>k=w.heap.size) (Y bn) (by rintro k⟨⟩;exact .inl rfl)) (λ_ cm=>.inl cm);have b:I (λ_=>False) w w3:=(Y bs).trans a (λk e=>.inr (by omega));refine⟨Y bo,(Y br).laid (Y z),b.trans (I.bz (S:=λ_=>False) (Y z) (by simp)) (λ_ dc=>dc.elim),ai _,?_⟩;intro k e;simp[Value.ownBlock]at e;omega
 have bi:=Z hA0
 clear hA0
 go_loopw [8,28] (λo i wr=>∃m:Nat,m<=V/\i=.int .u8 m/\On w wr w.heap.size l o m) (λ_ i _=>V-(intOf i).toNat)
 case atStart=>exact⟨0,aU _,rfl,Y bi⟩
 case round=>
  obtain⟨m,hm,rfl,d⟩:=hrel;have c:=d.own;obtain⟨ox,oc,ho⟩:=aC c;have cT:=d.ay.size;have cs:=d.rd.lt;have HA:=Z d;by_cases ax:m<V
  ·have h:m<l.length:=by rw[Y A];exact ax
   have o:=(Y HG) l[m] (au h);have ac:=(Y bk) l[m] (au h);have g:=d.rd;rw[bm h,cF]at g;have q:iq ((l.drop (m+1)).flatMap jO):=zv (λP L=>(Y HG) P (cg L));have F:((l.drop (m+1)).flatMap jO).length<=280:=by
    have K:=lK (l:=l.drop (m+1)) (λP L=>(Y HG) P (cg L));have h3:(l.drop (m+1)).length<=8:=by simp;rw[Y A];omega
    omega
   have cE:=wV o;have b:=As w.heap.size l[m] ((l.drop (m+1)).flatMap jO) wr g ((vt o).append q) (by simp only[ag];omega) o;have bx:=Z (show aF (l.take m)++aF [l[m]]=aF (l.take (m+1))by rw[<-eK,aq h]);clear d c g q F o;generalize l[m]=P at*;obtain⟨T,U,R,Q⟩:=P;simp only at b ac;subst ac;unfold E.value at b;simp only at b;subst ho;go_wp2_with fail
   refine b.mono ?_;rintro bh O⟨rfl,ba,al⟩;have j:I (λk=>k=w.heap.size) wr O:=I.bz (S:=λk=>k=w.heap.size) al (by rintro k⟨⟩;exact .inl rfl);have n:=aM (aM (j.own (Y HA).own (λk e dc=>by have:=(Y HA).pV k e;omega)) (.cells #[.string T,.string U,.bool R,.int .u64 Q] 177)) (.cells #[.string T,.string U,.bool R,.int .u64 Q] 177);have cM:=j.size;have W:=Z n;have bt:=Z j;have bq:=Z ba;clear ba al n j;go_wp2_with(first
    |(at_builtin;go_loud(refine aX _ rfl (.tmp 39) (.tmp 41) 101 rfl w.heap.size 177 i0 tQ 4 48 underlying101 an bc bd bf rfl (by decide) (.slice ox m oc) m (aF (l.take m)) rfl (Y W) ⟨O.heap.size+1,0,none⟩ 1 1 (aF [⟨T,U,R,Q⟩]) rfl rfl (Bi ⟨T,U,R,Q⟩ _ (by simp)) (yT _) (by omega) (by omega) (by simp;omega) ?_;intro o2 w6 a y;have bp:=Z a;have bT:=Z y;clear a y)))
   go_roundw;case rel=>
    refine⟨m+1,ax,by go_num,?_⟩;have d:=Y HA;have j:=Y bt;have K:=Y bT;have a:=Y bp;have ce:=d.own.lt;have ck:I (λk=>(Value.slice ox m oc).ownBlock=some k) O w6:=(((I.refl (λk=>(Value.slice ox m oc).ownBlock=some k) O).alloc _).alloc _).trans (I.dU K) (λk e=>.inl e);refine⟨by rw[<-Y bx];exact a,?_,(d.ay.trans j (λk e=>.inr (by omega))).trans ck (λk e=>.inr (ce k e).1),d.KN,?_⟩
    ·have hr:=Y bq;have ch:=hr.laid (cD O (.cells #[.string T,.string U,.bool R,.int .u64 Q] 177) none);have cj:=ch.laid (cD _ (.cells #[.string T,.string U,.bool R,.int .u64 Q] 177) none);exact cj.wrote K d.pV
    ·intro k e;rcases K.sr with ch|⟨cj,ch,hy⟩
     ·exact d.pV k (ch.symm.trans e)
     ·rw[ch]at e;cases e;simp at hy;omega
   case measure=>simp[intOf];omega
  ·have n:m=V:=by omega
   subst n;have h:l.take m=l:=by rw[<-Y A,bD]
   have b:l.drop m=[]:=by rw[<-Y A,eJ]
   have g:=d.rd;rw[b]at g;have a:=th w.heap.size (([]:List E).flatMap jO) false wr g (by simp);simp only[qz,mT,me,pY]at a;rw[ho,h]at c;have o:=Z c;have j:=Z d.ay;clear d c g b h;subst ho;go_wp2_with fail
   refine a.mono ?_;rintro bh O⟨rfl,q⟩;subst O;go_wp2;go_ret2
   exact⟨_,rfl,by rw[Y A];exact Y o,Y j⟩
def jq:Int->List (List E)->List Int
 |_,[]=>[]
 |f,l::r=>xK f l++jq (f+1) r
structure CI(f:Int)(ls:List (List E)):Prop where
 gU:∀l∈ls,∀x∈l,x.Good
 num:∀i(hi:i<ls.length),∀x∈ls[i],x.bV=f+i
 one:∀l∈ls,1<=l.length/\l.length<=8
 sum:(ls.map List.length).sum<32
 f0:0<=f
 f1:f+ls.length<18446744073709551616
def wT{n:Int}{l:List E}(h:∀x∈l,x.Good)(a:l.length<=8):(xK n l).length<=400:=by
 have:=lK h;unfold xK fw;simp only[ag,eF,bw,aE];omega
def pN{f:Int}{ls:List (List E)}(h:∀l∈ls,(∀x∈l,x.Good)/\l.length<=8):(jq f ls).length<=400*ls.length:=by
 induction ls generalizing f with
 |nil=>simp[jq]
 |cons l r b=>
  have a:=wT (n:=f) (h l (by simp)).1 (h l (by simp)).2;have c:=b (f:=f+1) (λx a=>h x (by simp[a]));rw[jq,ag,aE];omega
def yu{ls:List (List E)}(h:∀l∈ls,1<=l.length):ls.length<=(ls.map List.length).sum:=by
 induction ls with
 |nil=>simp
 |cons l r b=>
  have a:=h l (by simp);have c:=b (λx a=>h x (by simp[a]));simp only[aE,aY,fA];omega
def GQ(w:J)(base:Nat)(a:List M)(ls:List (List E)):Prop:=a.length=ls.length/\∀i(b:i<a.length)(c:i<ls.length),w.ownsRow base 177 4 a[i] ls[i].length (aF ls[i])
def Jp:(prog.info? 101).map (λi=>(i.zero,i.size,i.bytes))=some (some (.slice none 0 0),1,24):=by kernel_rfl
structure ER(w0 w:J)(f:Int)(ls:List (List E))(b z c m:Nat)(o:M)(vs:List M):Prop where
 box:w.heap[w0.heap.size+1]?=some (.cells #[o,.bool false] 167 (0,0))
 Dm:w.heap[w0.heap.size]?=some (.cells #[.slice none 0 0,.bool false] 167 (0,0))
 own:w.ownsRow (w0.heap.size+2) 101 1 o m vs
 Pm:GQ w (w0.heap.size+2) vs (ls.take m)
 bytes:Bytes w0 (.slice (some ⟨b,z,none⟩) (jq (f+m) (ls.drop m)).length c) (jq (f+m) (ls.drop m))
 cap:(jq (f+m) (ls.drop m)).length<=c/\c<=9223372036854775807
 ay:I (λ_=>False) w0 w
def zZ{ls:List (List E)}{m:Nat}(h:m<ls.length):((ls.take (m+1)).map List.length).sum=((ls.take m).map List.length).sum+ls[m].length:=by
 rw[aq h,aN,eG];simp
def CY(ls:List (List E))(m:Nat):((ls.take m).map List.length).sum<=(ls.map List.length).sum:=by
 have h:=bB (λl=>(l.map List.length).sum) (bF m ls);simp only[aN,eG]at h;omega
def ER.step{b K w1 w2:J}{f:Int}{ls:List (List E)}{O ao z z' c' m:Nat}{w o2 bv:M}{j:List M}{an:Obj}(x:ER b K f ls O ao z m w j)(hm:m<ls.length)(p:I (λ_=>False) K w1)(U:w1.ownsRow K.heap.size 177 4 bv ls[m].length (aF ls[m]))(L:w2.ownsRow (b.heap.size+2) 101 1 o2 (m+1) (j++[bv]))(X:du (w1.alloc an) w2 w o2)(C:Bytes b (.slice (some ⟨O,z',none⟩) (jq (f+(m+1:Nat)) (ls.drop (m+1))).length c') (jq (f+(m+1:Nat)) (ls.drop (m+1))))(D:(jq (f+(m+1:Nat)) (ls.drop (m+1))).length<=c'/\c'<=9223372036854775807):ER b (w2.setCell ⟨b.heap.size+1,0,none⟩ o2) f ls O z' c' (m+1) o2 (j++[bv])/\w2.cell? ⟨b.heap.size+1,0,none⟩=some w/\w2.frozen? ⟨b.heap.size+1,0,none⟩=false:=by
 have hz:=ak x.box;have ac:=x.ay.size;have h:=aK x.own;have q:I (λk=>w.ownBlock=some k) w1 w2:=((I.refl (λk=>w.ownBlock=some k) w1).alloc an).trans (I.dU X) (λ_ a=>.inl a);have y:I (λk=>w.ownBlock=some k) K w2:=(p.mono (T:=λk=>w.ownBlock=some k) (λ_ z=>z.elim)).trans q (λ_ a=>.inl a);have e:∀k,w.ownBlock=some k->∃n,K.heap[k]?=some (.cells n 101 (0,0)):=λk a=>dS x.own a;have g:w2.heap[b.heap.size+1]?=some (.cells #[w,.bool false] 167 (0,0)):=(y.block _ hz (λQ=>by have:=(h _ Q).1;omega)).trans x.box;have c:I (λk=>k=b.heap.size+1) w2 (w2.setCell ⟨b.heap.size+1,0,none⟩ o2):=(I.refl _ w2).setCell _ 0 _ (.inl rfl);refine⟨⟨?_,?_,?_,?_,C,D,?_⟩,by rw[aj g];rfl,cG g⟩
 ·have:=aL (i:=0) (u:=o2) g;simpa using this
 ·exact(eP _ (by omega)).trans ((y.block _ (ak x.Dm) (λQ=>by have:=(h _ Q).1;omega)).trans x.Dm)
 ·exact c.own L (λk a z=>by have:=(aK L k a).1;omega)
 ·obtain⟨v1,v2⟩:=x.Pm;have t:j.length=m:=by rw[v1];simp;omega
  refine⟨by simp[t];omega,λi h1 R=>?_⟩;have v:∀(V:J)(al:M)(ad:Nat)(H:List M),V.ownsRow (b.heap.size+2) 177 4 al ad H->I (λk=>w.ownBlock=some k) V w2->(∀k,w.ownBlock=some k->∃n,V.heap[k]?=some (.cells n 101 (0,0)))->(w2.setCell ⟨b.heap.size+1,0,none⟩ o2).ownsRow (b.heap.size+2) 177 4 al ad H:=by
   intro V al ad H N F G;have r:=F.own N (λk a z=>by
    obtain⟨n,d⟩:=G k z;obtain⟨P,o⟩:=dS N a;exact fj d o (by decide) rfl)
   exact c.own r (λk a z=>by have:=(aK r k a).1;omega)
  rcases cJ i m with W|W
  ·have A:(j++[bv])[i]=j[i]'(by omega):=kS (by omega);have B:(ls.take (m+1))[i]=(ls.take m)[i]'(by simp;omega):=by rw[fi,fi]
   rw[A,B];exact v K _ _ _ (v2 i (by omega) (by simp;omega)) y e
  ·have o:i=m:=by simp at R;omega
   subst o;have A:(j++[bv])[i]=bv:=by rw[kL (by omega)];simp[t]
   have B:(ls.take (i+1))[i]=ls[i]:=fi;rw[A,B];refine v w1 _ _ _ (gI U (by omega)) q (λk a=>?_);obtain⟨n,d⟩:=e k a;exact⟨n,(p.block k (ak d) id).trans d⟩
 ·exact(x.ay.trans y (λk a=>.inr (by have:=(h k a).1;omega))).trans c (λk a=>.inr (by omega))
def Dk{c:Func}{p u:Tmp}(m:c.results=#[.cell p 167,.tmp u])(a:Array M)(w:J)(g:Nat)(x:Option Addr)(n l:Nat)(e:Bool)(t:TypeId)(d:Nat×Nat)(k:a.getD p undef=.pointer (some ⟨g,0,none⟩))(h:w.heap[g]?=some (.cells #[.slice x n l,.bool e] t d)):(results c a).run prog w=.ok (.tuple #[.agg #[.slice x n l,.bool e],a.getD u undef]) w:=by
 have b:a[p]?.getD undef=.pointer (some ⟨g,0,none⟩):=by simpa using k
 have j:=jM (P:=prog) w g t 167 #[.slice x n l,.bool e] d _ h underlying167 rfl (by kernel_rfl);simp[results,m,b,asAddr,j,Result.andThen]
def Bytes.back{w c:J}{d z n k:Nat}{b:List Int}(m:Bytes c (.slice (some ⟨d,z,none⟩) n k) b)(j:I (λ_=>False) w c)(g:d<w.heap.size):Bytes w (.slice (some ⟨d,z,none⟩) n k) b:=by
 rcases m with⟨e,_⟩|⟨l,z',c',e,a,h⟩
 ·cases e
 ·cases e;exact .inr ⟨_,_,_,rfl,a,λl e=>(bI (w:=w) (j.block _ g id)).symm.trans (h l e)⟩
def KD:M->Nat
 | .slice _ n _=>n
 |_=>0
def Io(x:Option Addr)(n c:Nat):KD (.slice x n c)=n:=rfl
def IE(f:Int)(ls:List (List E))(m:Nat)(h:m<ls.length):jq (f+(m:Nat)) (ls.drop m)=fS (le 4 (fw (f+(m:Nat)) ls[m]).length++le 4 (jv (fw (f+(m:Nat)) ls[m])))++fw (f+(m:Nat)) ls[m]++jq (f+((m+1:Nat):Nat)) (ls.drop (m+1)):=by
 rw[bm h,jq];unfold xK;have:f+(m:Nat)+1=f+((m+1:Nat):Int):=by omega
 rw[this]
def BU(ax A e:Nat)(f:Int)(ls:List (List E))(w:J)(hT:Steps w)(hP:CI f ls)(H:(jq f ls).length<=e)(bo:e<=9223372036854775807)(F:ax<w.heap.size)(hb:Bytes w (.slice (some ⟨ax,A,none⟩) (jq f ls).length e) (jq f ls)):Calls prog 82 #[.slice (some ⟨ax,A,none⟩) (jq f ls).length e,.int .u64 f] w λca w'=>
 ∃eb ao B,ca=.returned (.tuple #[.agg #[.slice eb ls.length ao,.bool false],.bool true])/\w'.ownsRow (w.heap.size+2) 101 1 (.slice eb ls.length ao) ls.length B/\GQ w' (w.heap.size+2) B ls/\I (λ_=>False) w w':=by
 obtain⟨i0,cs,cE,cM,cT⟩:=bK Jp
 have dT:∀(eb:Bool)(w:J),(Op.unary .not (.bool eb)).run prog w=.ok (.bool (!eb)) w:=λ_ _=>rfl
 have dx:ls.length<32:=Nat.lt_of_le_of_lt (yu (λl L=>(hP.one l L).1)) hP.sum
 have ee:=hP.f0
 have ef:=hP.f1
 obtain⟨RL,S⟩:∃RL,(jq f ls).length=RL:=⟨_,rfl⟩
 have hA0:ER w ((w.alloc (.cells #[.slice none 0 0,.bool false] 167)).alloc (.cells #[.slice none 0 0,.bool false] 167)) f ls ax A e 0 (.slice none 0 0) []:=by
  refine⟨az _ (by simp),(dL _ (by simp)).trans (az _ rfl),bC _ _ _ _,⟨rfl,λi h1=>absurd h1 (fy i)⟩,?_,?_,((I.refl _ w).alloc _).alloc _⟩
  ·simpa using hb
  ·simpa using⟨H,bo⟩
 have ba:=Z hA0
 have HT:=Z hT
 have P:=Z hP
 have cl:=Z S
 rw[S]
 clear hA0 hT hP hb H bo S
 go_enter func82,ntmps82
 go_wp2
 go_loopw [0,7] (λbv a wr=>∃m cb n ej B,m<=ls.length/\bv=.slice (some ⟨ax,cb,none⟩) (jq (f+(m:Nat)) (ls.drop m)).length n/\a=.int .i64 (((ls.take m).map List.length).sum:Nat)/\ER w wr f ls ax cb n m ej B) (λbv _ _=>KD bv)
 case atStart=>exact⟨0,A,e,_,_,aU _,by rw[<-Y cl];simp,rfl,Y ba⟩
 case round=>
  obtain⟨m,cb,n,ej,B,hm,rfl,rfl,b⟩:=hrel;have an:∀W,I (λ_=>False) wr W->Steps W:=λW hW=>(Y HT).below ((b.ay.trans hW (λ_ n=>n.elim)).below (ai _) (λ_ n=>n.elim)) (Y HT).lt;obtain⟨k,j,ho⟩:=aC b.own;have p:wr.cell? ⟨w.heap.size+1,0,none⟩=some ej:=by rw[aj b.box];rfl
  have ed:wr.cell? ⟨w.heap.size+1,1,none⟩=some (.bool false):=by rw[aj b.box];rfl
  have ei:=b.ay.size;have bx:=ak b.box;by_cases h:m<ls.length
  ·have N:=au h;have v:=(Y P).gU _ N;have x:=(Y P).num m h;have y:=(Y P).one _ N;have z:=zZ h;have bq:=CY ls (m+1);have cB:=(Y P).sum;have bp:=IE f ls m h;have g:=b.bytes;have c:=b.cap;have al:=pN (f:=f+((m+1:Nat):Int)) (ls:=ls.drop (m+1)) (λl L=>⟨(Y P).gU l (cg L),((Y P).one l (cg L)).2⟩);have cp:(ls.drop (m+1)).length<=32:=by simp;omega
   rw[bp]at g c|-;have HA:=Z b;obtain⟨l,L⟩:∃l,ls[m]=l:=⟨_,rfl⟩;rw[L]at v x y z g c|-;have ce:=Z L;obtain⟨q,hq⟩:∃q:Int,f+(m:Nat)=q:=⟨_,rfl⟩;rw[hq]at x g c|-;have cv:0<=q:=by omega
   have cx:q<18446744073709551616:=by omega
   obtain⟨bT,V⟩:∃bT,jq (f+((m+1:Nat):Int)) (ls.drop (m+1))=bT:=⟨_,rfl⟩;rw[V]at g c al|-;have cn:(fw q l).length<=1000:=by have:=lK v;unfold fw;rw[ag,aE,bw];omega
   have D:0<(fw q l).length:=by unfold fw;rw[ag,bw];omega
   have o:(fS (le 4 (fw q l).length++le 4 (jv (fw q l)))++fw q l++bT).length=12+(fw q l).length+bT.length:=by simp only[ag,eF,bw]
   have G:Bytes wr (.slice (some ⟨ax,cb,none⟩) (fS (le 4 (fw q l).length++le 4 (jv (fw q l)))++fw q l++bT).length n) (fS (le 4 (fw q l).length++le 4 (jv (fw q l)))++fw q l++bT):=g.below (b.ay.below (ai _) (λ_ n=>n.elim)) (λao K=>by cases K;exact F);have hcut:=DR ax cb n _ (fw q l) bT wr (an wr (I.refl _ _)) D (by omega) (by omega) o c.1 c.2 G;have d:=b.own;rw[ho]at d p;have ck:=Z d;obtain⟨LL,bi⟩:∃LL,(fS (le 4 (fw q l).length++le 4 (jv (fw q l)))++fw q l++bT).length=LL:=⟨_,rfl⟩;rw[bi]at hcut o|-;obtain⟨C,t⟩:∃C,l.length=C:=⟨_,rfl⟩;obtain⟨BL,s⟩:∃BL,(fw q l).length=BL:=⟨_,rfl⟩;have bg:=Z (λ(W:J)(hW:I (λ_=>False) wr W)(X:Bytes W (.slice (some ⟨ax,cb+12,none⟩) BL (n-12)) (fw q l))=>yr ax (cb+12) (n-12) l q W v x cv cx y.1 y.2 (by rw[s];exact X));have O:∀W,I (λ_=>False) wr W->Bytes W (.slice (some ⟨ax,cb+12,none⟩) BL (n-12)) (fw q l)->Calls prog 130 #[.slice (some ⟨ax,cb+12,none⟩) BL (n-12),.int .u64 q] W λca w'=>∃a,ca=.returned (.tuple #[a,.bool true])/\w'.ownsRow W.heap.size 177 4 a C (aF l)/\I (λ_=>False) W w':=by
    intro W hW X;have db:=(Y bg) W hW X;rw[s,t]at db;exact db
   have bh:=Z O;have ch:=Z t;rw[s]at hcut o;obtain⟨RN,U⟩:∃RN,bT.length=RN:=⟨_,rfl⟩;rw[U]at hcut o al;rw[t]at z y;obtain⟨S0,bk⟩:∃S0,((ls.take m).map List.length).sum=S0:=⟨_,rfl⟩;rw[bk]at z|-;have cm:=Z z;have R:=Z V;have Q:=Z U;have dn:(0:Int)<(LL:Int):=by omega
   have a1:IntKind.u64.wrap (m:Int)=m:=by rw[eZ];omega
   have a2:IntKind.u64.wrap q=q:=by rw[eZ];omega
   have a3:IntKind.i64.wrap ((S0:Int)+(C:Int))=(S0:Int)+C:=by rw[bu];omega
   have a4:¬((32:Int)<=(S0:Int)+(C:Int)):=by omega
   have a5:f+(m:Int)=q:=hq;have he:∀(a:Addr)(n ao:Nat)(w:J),(binOp .eql 119 (.slice (some a) n ao) (.slice none 0 0)).run prog w=.ok (.bool false) w:=λ_ _ _ _=>rfl;have bb:=Z (show RN<LL by omega);clear an b v x bq cB bp g c al cp L hq V cn D o G bi t s O d U bk bg;subst ho;go_wp2_with fail
   refine hcut.mono ?_;rintro ca w1⟨z',c',rfl,g1,g2,bl,bn,r⟩;have ds:w1.cell? ⟨w.heap.size+1,0,none⟩=some (.slice k m j):=r.cell p id bx;have bs:=(Y bh) w1 r (bl.below (r.below (ai _) (λ_ n=>n.elim)) (λao K=>by cases K;show ax<wr.heap.size;omega));have bd:=Z r;have cd:=Z bn;clear bl bn r hcut;go_wp2_with fail
   refine bs.mono ?_;rintro ca w2⟨bv,rfl,ad,br⟩;obtain⟨dk,dc,rfl⟩:=aC ad;have a:I (λ_=>False) wr w2:=(Y bd).trans br (λ_ n=>n.elim);have dv:w2.cell? ⟨w.heap.size+1,0,none⟩=some (.slice k m j):=a.cell p id bx;have ea:=a.size;have bc:=Z (a.own (Y ck) (λ_ _ n=>n));have cj:=Z (gI ad (Y bd).size);have bf:=Z a;clear ad br a bs;go_wp2_with(first
    |(at_builtin;go_loud(refine aX _ rfl (.tmp 50) (.tmp 52) 165 rfl (w.heap.size+2) 101 i0 (.slice none 0 0) 1 24 underlying165 cs cE cM cT rfl (by decide) (.slice k m j) m B rfl (aM (Y bc) _) ⟨w2.heap.size,0,none⟩ 1 1 [.slice dk C dc] rfl rfl (nY _ _ _) (by simp[Value.oneCell']) (by omega) (by omega) (by simp;omega) ?_;intro o2 w3 ac bt;obtain⟨hA3,ec,eg⟩:=(Y HA).step (z':=z') (c':=c') (w1:=w2) (w2:=w3) (o2:=o2) (bv:=.slice dk C dc) h (Y bf) (by rw[Y ce];have db:=Y cj;have ca:=Y ch;rw[<-ca]at db;rw[ca];rw[ca]at db;exact db) ac bt (by rw[Y R];have hh:=(Y cd).back (Y HA).ay F;rw[<-Y Q]at hh;exact hh) (by rw[Y R,Y Q];exact⟨g1,g2⟩);obtain⟨el,ek,rfl⟩:=aC ac;have cc:=Z hA3;clear ac bt hA3)))
   go_roundw;case rel=>exact⟨m+1,z',c',_,_,h,by rw[Y R,Y Q],by rw[Y cm];go_num,Y cc⟩
   case measure=>
    simp only[Io];exact Y bb
  ·have g:m=ls.length:=by omega
   have r:ls.drop m=[]:=by rw[g,eJ]
   have s:ls.take m=ls:=by rw[g,bD]
   have y:w.heap.size<wr.heap.size:=ak b.Dm;have N:wr.cell? ⟨w.heap.size,0,none⟩=some (.slice none 0 0):=by rw[aj b.Dm];rfl
   have O:wr.cell? ⟨w.heap.size,1,none⟩=some (.bool false):=by rw[aj b.Dm];rfl
   have Q:wr.frozen? ⟨w.heap.size,0,none⟩=false:=cG b.Dm;have R:wr.frozen? ⟨w.heap.size,1,none⟩=false:=cG b.Dm;have c:=b.own;have a:=b.Pm;have t:=b.ay;have o:=b.Dm;rw[ho]at c p;rw[s]at a;rw[g]at c p;rw[r];show Code.wp _ _ _ _ _;have q:=Z (show((wr.setCell ⟨w.heap.size,0,none⟩ (.slice k ls.length j)).setCell ⟨w.heap.size,1,none⟩ (.bool false)).heap[w.heap.size]?=some (.cells #[.slice k ls.length j,.bool false] 167 (0,0))/\((wr.setCell ⟨w.heap.size,0,none⟩ (.slice k ls.length j)).setCell ⟨w.heap.size,1,none⟩ (.bool false)).ownsRow (w.heap.size+2) 101 1 (.slice k ls.length j) ls.length B/\GQ ((wr.setCell ⟨w.heap.size,0,none⟩ (.slice k ls.length j)).setCell ⟨w.heap.size,1,none⟩ (.bool false)) (w.heap.size+2) B ls/\I (λ_=>False) w ((wr.setCell ⟨w.heap.size,0,none⟩ (.slice k ls.length j)).setCell ⟨w.heap.size,1,none⟩ (.bool false))from by
    have d:I (λao=>ao=w.heap.size) wr ((wr.setCell ⟨w.heap.size,0,none⟩ (.slice k ls.length j)).setCell ⟨w.heap.size,1,none⟩ (.bool false)):=((I.refl (λao=>ao=w.heap.size) wr).setCell w.heap.size 0 _ (.inl rfl)).setCell w.heap.size 1 _ (.inl rfl);refine⟨?_,d.own c (λao K n=>by have:=(aK c ao K).1;omega),⟨a.1,λi h1 v=>d.own (a.2 i h1 v) (λao K n=>by have:=(aK (a.2 i h1 v) ao K).1;omega)⟩,t.trans d (λao K=>.inr (by omega))⟩;have v:=aL (i:=1) (u:=.bool false) (aL (i:=0) (u:=.slice k ls.length j) o);simpa using v)
   subst g;clear b an c a t o r s ba P;subst ho;have x:(jq (f+(ls.length:Nat)) []).length=0:=rfl;rw[x];go_wp2;obtain⟨z,C,D,G⟩:=Y q;refine bO (Dk rfl _ _ w.heap.size k ls.length j false _ _ rfl z) rfl ?_;exact⟨k,j,B,rfl,C,D,G⟩
end Go.Proofs.YtophdnlmpfmeiaaGreatDoor
