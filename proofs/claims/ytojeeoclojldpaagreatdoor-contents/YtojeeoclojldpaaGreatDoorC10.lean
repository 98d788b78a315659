import Derived.Test.YtojeeoclojldpaaGreatDoorC4
open _root_ renaming Option.some→H,Bool.true→bW,Int→Z
namespace Go.Proofs.YtojeeoclojldpaaGreatDoor
open ChangeShapes WideShapes RowKit Proofs.Tryz
set_option maxHeartbeats 16000000
set_option linter.all false
set_option maxRecDepth 100000
variable{e L:cA}{k:dW}
def Kg:∀{l m:cA},dQ l->dQ m->l.Perm m->l=m
 |[],m,_,_,h=>(List.nil_perm.1 h).symm
 |a::l,[],_,_,h=>by have:=h.length_eq;simp at this
 |a::l,k::m,i,j,h=>by
  obtain⟨b,e⟩:=bw.1 i;obtain⟨f,g⟩:=bw.1 j;have n:a=k:=by
   rcases az.1 (h.mem_iff.1<|dy ..)with c|c
   .exact c
   .rcases az.1 (h.mem_iff.2<|dy ..)with d|d
    .exact d.symm
    .have:=lM<|f a c;rw[b k d]at this;cases this
  subst n;rw[Kg e g<|(List.perm_cons a).1 h]
def vR{a:dW}(b:∀r∈k,dQ r)(d:ku k)(e:a.Perm k):df a=df k:=by
 have h:∀r∈a,dQ r:=λr c=>b r<|e.mem_iff.1 c;have c:a.flatten.Perm k.flatten:=e.flatten;have f:=Ck a h;have g:JI (df a):=(((fH a).trans c).pairwise_iff<|λ{i j}q e=>q ⟨e.1.symm,e.2.symm⟩).2<|Ag b d;exact Kg (List.Pairwise.imp₂ (λi j q e=>yB q e) f g) (sU b d)<|((fH a).trans c).trans (fH k).symm
def Cj{c:dW}(f:∀r∈k,dQ r)(d:ku k)(e:c.Perm k)(b:eI)(a:Bool):gS b a c=gS b a k:=by
 unfold gS;rw[vR f d e]
def RW(l s:cA)(k:ab):ng (l++s) k=(ng l k).or (ng s k):=List.find?_append
def Rx{m f W g O:cA}(K:AL [L,W] [O] k)(w:∀a∈e,∀n∈L,a.key≠n.key)(x:∀a∈L,∀n∈m,a.key≠n.key)(A:∀a∈f,∀n∈L,a.key≠n.key)(B:∀a∈L,∀n∈g,a.key≠n.key)(C:∀a∈f,∀n∈W,a.key≠n.key)(D:∀a∈W,∀n∈g,a.key≠n.key):AL [e++L++m,f++W++g] [e++m,f++O++g] k:=by
 intro p;have d:=K p;simp only[qi,yu,sD,RW]at d|-;have o:∀{l:cA}{c:E},ng l p=H c->c∈l/\c.key=p:=λ{l c}v=>⟨jJ v,by simpa using rI v⟩;have j:∀{l:cA}{c:E},(∀a∈l,a.key≠c.key)->c.key=p->ng l p=none:=λ{l c}v q=>nB.2<|λa b r=>v a b<|r.trans q.symm;cases ht:ng L p with
 |some c=>
  obtain⟨h,i⟩:=o ht;rw[j (λa b=>w a b c h) i,j (l:=m) (λa b r=>x c h a b r.symm) i,j (l:=f) (λa b=>A a b c h) i,j (l:=g) (λa b r=>B c h a b r.symm) i];rw[ht]at d;simpa using d
 |none=>
  rw[ht]at d;simp only[lX,sD]at d|-;rcases d with d|⟨h,i,c,s,F⟩
  .left;rw[d]
  .obtain⟨t,u⟩:=o s;rw[j (l:=f) (λa b=>C a b c t) u,j (l:=g) (λa b r=>D c t a b r.symm) u,i,s];cases hx:(ng e p).or (ng m p)with
   |some N=>left;simp
   |none=>right;exact⟨h,by simp,c,by simp,F⟩
def De{ms:eI}{lowest:Bool}(f:∀r∈k,gM r)(d:gM e)(a:ku (k.reverse++[e])):dQ (df<|e::k)/\dQ (gS ms lowest<|e::k)/\∀(t:Z)(D:dW),(t∈ms\/∀x∈(k.reverse++[e]).flatten,x.bI<=t)->(lowest=bW->∀g,qL (D.map<|ke t) g=none)->AL ((k.reverse++[e]).map<|ke t) [ke t<|gS ms lowest<|e::k] (D.map<|ke t):=by
 have b:∀r∈k.reverse++[e],gM r:=by intro r h;simp only[am,iX,az,eG,kK]at h;rcases h with h|rfl;exact f r h;exact d
 have c:(e::k).Perm (k.reverse++[e]):=((List.perm_append_singleton e k.reverse).trans<|(List.reverse_perm k).cons e).symm;rw[vR (λr h=>(b r h).mq) a c,Cj (λr h=>(b r h).mq) a c];exact⟨sU (λr h=>(b r h).mq) a,(Er b a ms lowest).mq,λt D d c=>Ah b a d c⟩
def Fh{c:cA}(i:gM (e++L++c))(d:∀x∈e,∀a∈L,x.key≠a.key)(f:∀x∈e,∀a∈c,x.key≠a.key)(g:∀x∈L,∀a∈c,x.key≠a.key)(t:Z):ke t (e++L++c)=ke t e++ke t L++ke t c:=by
 rw[BI i (λx h a b=>(am.1 h).elim (λq=>f x q a b)<|λq=>g x q a b) t,BI (i.sub<|oh _ _) d t]
def Ra{k d W f:cA}{ms:eI}{lowest:Bool}(s:gM (e++L++k))(m:gM (d++W++f))(v:Over (e++L++k) (d++W++f))(F:gQ e L)(x2:gQ e k)(K:gQ L k)(N:gQ d W)(O:gQ d f)(P:gQ W f)(S:gQ d L)(T:gQ L f):dQ (df [W,L])/\gM (d++gS ms lowest [W,L]++f)/\gQ d (gS ms lowest [W,L])/\gQ (gS ms lowest [W,L]) f/\Over (e++k) (d++gS ms lowest [W,L]++f)/\∀(h:Z)(ac:dW),(h∈ms\/∀x∈L++W,x.bI<=h)->(lowest=bW->∀ad,qL (ac.map<|ke h) ad=none)->AL [ke h<|e++L++k,ke h<|d++W++f] [ke h<|e++k,ke h<|d++gS ms lowest [W,L]++f] (ac.map<|ke h):=by
 have r:gM L:=s.sub (by simp);have C:gM W:=m.sub (by simp);have hX:gM (e++k):=s.sub (by simp);have p:∀w∈[L,W],gM w:=by intro w u;simp only[az,eG,kK]at u;rcases u with rfl|rfl;exact r;exact C
 have o:ku [L,W]:=by unfold ku;simp only[bw,az,eG,kK,forall_eq,List.Pairwise.nil,sC,false_implies,implies_true];exactλc a h g=>v c (by simp[a]) h<|by simp[g]
 have hp:([W,L]:dW).Perm [L,W]:=List.Perm.swap _ _ _;have em:=vR (λw u=>(p w u).mq) o hp;have eo:=Cj (λw u=>(p w u).mq) o hp ms lowest;have X:=Er p o ms lowest;have j:∀x∈gS ms lowest [L,W],x∈L\/x∈W:=λx t=>by simpa using zr ms lowest [L,W] x t
 rw[em,eo];have A:gQ d (gS ms lowest [L,W]):=λc a h g=>(j h g).elim (S c a h)<|N c a h;have B:gQ (gS ms lowest [L,W]) f:=λc a h g=>(j c a).elim (λq=>T c q h g)<|λq=>P c q h g;have V:gM (d++gS ms lowest [L,W]++f):=by refine⟨bR.2 ⟨bR.2 ⟨m.mq.sub (by simp),X.mq,λc a h g=>jd.2<|.inl<|A c a h g⟩,m.mq.sub (by simp),λc a h g=>jd.2<|.inl<|(am.1 a).elim (λq=>O c q h g)<|λq=>B c q h g⟩,λQ l=>?_⟩;rcases am.1 l with l|l;rcases am.1 l with l|l;exact m.key Q (by simp[l]);exact X.key Q l;exact m.key Q<|by simp[l]
 refine⟨sU (λw u=>(p w u).mq) o,V,A,B,?_,λh ac g hD=>?_⟩;intro c a i b n;(have l:c∈e++L++k:=by simp only[am]at a|-;rcases a with q|q;exact .inl<|.inl q;exact .inr q);have D:∀b∈L,c.key≠b.key:=λb d=>(am.1 a).elim (λq=>nZ<|F c q b d)<|λq Q=>nZ (K b d c q) Q.symm;rcases am.1 b with b|b;rcases am.1 b with b|b;exact v c l i (by simp[b]) n;rcases j i b with q|q;exact absurd n<|D i q;exact v c l i (by simp[q]) n;exact v c l i (by simp[b]) n;rw[Fh s F.ne x2.ne K.ne,Fh m N.ne O.ne P.ne,BI hX x2.ne,Fh V A.ne O.ne B.ne];have sub:∀{l:cA},gM l->∀x∈ke h l,x∈l:=λu x t=>xP u t;have D:gM e:=s.sub (by simp);have E:gM k:=s.sub (by simp);have l:gM d:=m.sub (by simp);have n:gM f:=m.sub (by simp);refine Rx ?_ (λc a i b=>F.ne c (sub D c a) i<|sub r i b) (λc a i b=>K.ne c (sub r c a) i<|sub E i b) (λc a i b=>S.ne c (sub l c a) i<|sub r i b) (λc a i b=>T.ne c (sub r c a) i<|sub n i b) (λc a i b=>N.ne c (sub l c a) i<|sub C i b)<|λc a i b=>P.ne c (sub C c a) i<|sub n i b;exact Ah p o (g.imp_right<|λq x t=>q x<|by simpa using t) hD
