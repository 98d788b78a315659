import Derived.Test.YtnfehfmncheoiaaGreatDoorC4
open _root_ renaming Option.some→H,Bool.true→bU,Int→X
namespace Go.Proofs.YtnfehfmncheoiaaGreatDoor
open ChangeShapes WideShapes RowKit Proofs.Tryz
set_option maxHeartbeats 16000000
set_option linter.all false
set_option maxRecDepth 100000
variable{e L:cA}{k:dW}
def Ke:∀{l m:cA},dQ l->dQ m->l.Perm m->l=m
 |[],m,_,_,h=>(List.nil_perm.1 h).symm
 |a::l,[],_,_,h=>by have:=h.length_eq;simp at this
 |a::l,k::m,i,j,h=>by
  obtain⟨b,e⟩:=bj.1 i;obtain⟨f,g⟩:=bj.1 j;have n:a=k:=by
   rcases aA.1 (h.mem_iff.1<|dy ..)with c|c
   .exact c
   .rcases aA.1 (h.mem_iff.2<|dy ..)with d|d
    .exact d.symm
    .have:=lM<|f a c;rw[b k d]at this;cases this
  subst n;rw[Ke e g<|(List.perm_cons a).1 h]
def vQ{a:dW}(b:∀r∈k,dQ r)(d:kr k)(e:a.Perm k):di a=di k:=by
 have h:∀r∈a,dQ r:=λr c=>b r<|e.mem_iff.1 c;have c:a.flatten.Perm k.flatten:=e.flatten;have f:=Cm a h;have g:JG (di a):=(((fG a).trans c).pairwise_iff<|λ{i j}q e=>q ⟨e.1.symm,e.2.symm⟩).2<|Ai b d;exact Ke (List.Pairwise.imp₂ (λi j q e=>yC q e) f g) (sV b d)<|((fG a).trans c).trans (fG k).symm
def Cl{c:dW}(f:∀r∈k,dQ r)(d:kr k)(e:c.Perm k)(b:eK)(a:Bool):gU b a c=gU b a k:=by
 unfold gU;rw[vQ f d e]
def Sf(l s:cA)(k:ab):nk (l++s) k=(nk l k).or (nk s k):=List.find?_append
def RH{m f W g O:cA}(K:AP [L,W] [O] k)(w:∀a∈e,∀n∈L,a.key≠n.key)(x:∀a∈L,∀n∈m,a.key≠n.key)(A:∀a∈f,∀n∈L,a.key≠n.key)(B:∀a∈L,∀n∈g,a.key≠n.key)(C:∀a∈f,∀n∈W,a.key≠n.key)(D:∀a∈W,∀n∈g,a.key≠n.key):AP [e++L++m,f++W++g] [e++m,f++O++g] k:=by
 intro p;have d:=K p;simp only[qi,yw,sD,Sf]at d|-;have o:∀{l:cA}{c:E},nk l p=H c->c∈l/\c.key=p:=λ{l c}v=>⟨jM v,by simpa using rI v⟩;have j:∀{l:cA}{c:E},(∀a∈l,a.key≠c.key)->c.key=p->nk l p=none:=λ{l c}v q=>nE.2<|λa b r=>v a b<|r.trans q.symm;cases ht:nk L p with
 |some c=>
  obtain⟨h,i⟩:=o ht;rw[j (λa b=>w a b c h) i,j (l:=m) (λa b r=>x c h a b r.symm) i,j (l:=f) (λa b=>A a b c h) i,j (l:=g) (λa b r=>B c h a b r.symm) i];rw[ht]at d;simpa using d
 |none=>
  rw[ht]at d;simp only[lX,sD]at d|-;rcases d with d|⟨h,i,c,s,F⟩
  .left;rw[d]
  .obtain⟨t,u⟩:=o s;rw[j (l:=f) (λa b=>C a b c t) u,j (l:=g) (λa b r=>D c t a b r.symm) u,i,s];cases hx:(nk e p).or (nk m p)with
   |some N=>left;simp
   |none=>right;exact⟨h,by simp,c,by simp,F⟩
def Df{ms:eK}{lowest:Bool}(f:∀r∈k,gN r)(d:gN e)(a:kr (k.reverse++[e])):dQ (di<|e::k)/\dQ (gU ms lowest<|e::k)/\∀(t:X)(D:dW),(t∈ms\/∀x∈(k.reverse++[e]).flatten,x.bH<=t)->(lowest=bU->∀g,qM (D.map<|jZ t) g=none)->AP ((k.reverse++[e]).map<|jZ t) [jZ t<|gU ms lowest<|e::k] (D.map<|jZ t):=by
 have b:∀r∈k.reverse++[e],gN r:=by intro r h;simp only[ak,iY,aA,eI,kJ]at h;rcases h with h|rfl;exact f r h;exact d
 have c:(e::k).Perm (k.reverse++[e]):=((List.perm_append_singleton e k.reverse).trans<|(List.reverse_perm k).cons e).symm;rw[vQ (λr h=>(b r h).mq) a c,Cl (λr h=>(b r h).mq) a c];exact⟨sV (λr h=>(b r h).mq) a,(Er b a ms lowest).mq,λt D d c=>Aj b a d c⟩
def Fh{c:cA}(i:gN (e++L++c))(d:∀x∈e,∀a∈L,x.key≠a.key)(f:∀x∈e,∀a∈c,x.key≠a.key)(g:∀x∈L,∀a∈c,x.key≠a.key)(t:X):jZ t (e++L++c)=jZ t e++jZ t L++jZ t c:=by
 rw[BM i (λx h a b=>(ak.1 h).elim (λq=>f x q a b)<|λq=>g x q a b) t,BM (i.sub<|oo _ _) d t]
def Rj{k d W f:cA}{ms:eK}{lowest:Bool}(s:gN (e++L++k))(m:gN (d++W++f))(v:Over (e++L++k) (d++W++f))(F:gS e L)(x2:gS e k)(K:gS L k)(N:gS d W)(O:gS d f)(P:gS W f)(S:gS d L)(T:gS L f):dQ (di [W,L])/\gN (d++gU ms lowest [W,L]++f)/\gS d (gU ms lowest [W,L])/\gS (gU ms lowest [W,L]) f/\Over (e++k) (d++gU ms lowest [W,L]++f)/\∀(h:X)(ac:dW),(h∈ms\/∀x∈L++W,x.bH<=h)->(lowest=bU->∀ad,qM (ac.map<|jZ h) ad=none)->AP [jZ h<|e++L++k,jZ h<|d++W++f] [jZ h<|e++k,jZ h<|d++gU ms lowest [W,L]++f] (ac.map<|jZ h):=by
 have r:gN L:=s.sub (by simp);have C:gN W:=m.sub (by simp);have hX:gN (e++k):=s.sub (by simp);have p:∀w∈[L,W],gN w:=by intro w u;simp only[aA,eI,kJ]at u;rcases u with rfl|rfl;exact r;exact C
 have o:kr [L,W]:=by unfold kr;simp only[bj,aA,eI,kJ,forall_eq,List.Pairwise.nil,sC,false_implies,implies_true];exactλc a h g=>v c (by simp[a]) h<|by simp[g]
 have hp:([W,L]:dW).Perm [L,W]:=List.Perm.swap _ _ _;have em:=vQ (λw u=>(p w u).mq) o hp;have eo:=Cl (λw u=>(p w u).mq) o hp ms lowest;have hO:=Er p o ms lowest;have j:∀x∈gU ms lowest [L,W],x∈L\/x∈W:=λx t=>by simpa using zu ms lowest [L,W] x t
 rw[em,eo];have A:gS d (gU ms lowest [L,W]):=λc a h g=>(j h g).elim (S c a h)<|N c a h;have B:gS (gU ms lowest [L,W]) f:=λc a h g=>(j c a).elim (λq=>T c q h g)<|λq=>P c q h g;have V:gN (d++gU ms lowest [L,W]++f):=by refine⟨bP.2 ⟨bP.2 ⟨m.mq.sub (by simp),hO.mq,λc a h g=>je.2<|.inl<|A c a h g⟩,m.mq.sub (by simp),λc a h g=>je.2<|.inl<|(ak.1 a).elim (λq=>O c q h g)<|λq=>B c q h g⟩,λQ l=>?_⟩;rcases ak.1 l with l|l;rcases ak.1 l with l|l;exact m.key Q (by simp[l]);exact hO.key Q l;exact m.key Q<|by simp[l]
 refine⟨sV (λw u=>(p w u).mq) o,V,A,B,?_,λh ac g hD=>?_⟩;intro c a i b n;(have l:c∈e++L++k:=by simp only[ak]at a|-;rcases a with q|q;exact .inl<|.inl q;exact .inr q);have D:∀b∈L,c.key≠b.key:=λb d=>(ak.1 a).elim (λq=>oa<|F c q b d)<|λq Q=>oa (K b d c q) Q.symm;rcases ak.1 b with b|b;rcases ak.1 b with b|b;exact v c l i (by simp[b]) n;rcases j i b with q|q;exact absurd n<|D i q;exact v c l i (by simp[q]) n;exact v c l i (by simp[b]) n;rw[Fh s F.ne x2.ne K.ne,Fh m N.ne O.ne P.ne,BM hX x2.ne,Fh V A.ne O.ne B.ne];have sub:∀{l:cA},gN l->∀x∈jZ h l,x∈l:=λu x t=>xQ u t;have D:gN e:=s.sub (by simp);have E:gN k:=s.sub (by simp);have l:gN d:=m.sub (by simp);have n:gN f:=m.sub (by simp);refine RH ?_ (λc a i b=>F.ne c (sub D c a) i<|sub r i b) (λc a i b=>K.ne c (sub r c a) i<|sub E i b) (λc a i b=>S.ne c (sub l c a) i<|sub r i b) (λc a i b=>T.ne c (sub r c a) i<|sub n i b) (λc a i b=>N.ne c (sub l c a) i<|sub C i b)<|λc a i b=>P.ne c (sub C c a) i<|sub n i b;exact Aj p o (g.imp_right<|λq x t=>q x<|by simpa using t) hD
