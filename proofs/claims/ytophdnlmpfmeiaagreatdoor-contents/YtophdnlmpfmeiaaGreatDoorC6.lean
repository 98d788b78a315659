import Derived.Laws.OwnMore
import Derived.Test.YtophdnlmpfmeiaaGreatDoorC1
import Derived.Test.YtophdnlmpfmeiaaGreatDoorC2
import Derived.Test.YtophdnlmpfmeiaaGreatDoorC3
import Derived.Test.YtophdnlmpfmeiaaGreatDoorC4
namespace Go.Proofs.YtophdnlmpfmeiaaGreatDoor
open ChangeShapes WideShapes RowKit Proofs.Tryz
set_option maxHeartbeats 16000000
set_option linter.all false
set_option maxRecDepth 100000
def tq(l:List KV):Prop:=l.Pairwise (λa b=>ep a.1 b.1=true)
def vv(a k:aa):zw a k=!ep a k:=rfl
def yA(k v:aa)(l a:List KV):l.foldl (dR k v) (a,true)=(a++l.filter (λp=>!decide (p.1=k)),true):=by
 induction l generalizing a with
 |nil=>simp
 |cons p r b=>
  rw[eh];by_cases h:p.1=k
  ·have:dR k v (a,true) p=(a,true):=by simp[dR,h]
   rw[this,b];simp[h]
  ·have:dR k v (a,true) p=(a++[p],true):=by simp[dR,h]
   rw[this,b];simp[h]
def Ir(k v:aa)(l a:List KV)(s:tq l):l.foldl (dR k v) (a,false)=if l.all (λp=>ep p.1 k)then(a++l,false)else(a++l.filter (λp=>ep p.1 k)++[(k,v)]++l.filter (λp=>ep k p.1),true):=by
 induction l generalizing a with
 |nil=>simp
 |cons p r q=>
  obtain⟨m,n⟩:=bL.1 s;rw[eh];cases c:ep p.1 k with
  |true=>
   have b:=kp c;have h:zw p.1 k=false:=by rw[vv,c];rfl
   have:dR k v (a,false) p=(a++[p],false):=by simp[dR,b,h]
   rw[this,q _ n];simp only[pX,c,Bool.true_and];split
   ·simp
   ·rw[dW (by simp[c]),cA (by simp[fV c])];simp
  |false=>
   have h:zw p.1 k=true:=by rw[vv,c];rfl
   have d:∀q∈r,ep k q.1=true:=λq b=>sZ c (m q b);have e:r.filter (λp=>ep p.1 k)=[]:=gF.2 (λq b=>by simp[fV (d q b)]);have f:r.filter (λp=>ep k p.1)=r:=ff.2 (λq b=>d q b);have g:r.filter (λp=>!decide (p.1=k))=r:=ff.2 (λq b=>by have:=kp (d q b);simp;exactλj=>this j.symm);by_cases i:p.1=k
   ·have:dR k v (a,false) p=(a++[(k,v)],true):=by
     unfold dR;simp only[h];simp[i]
    rw[this,yA,g];simp only[pX,c,sI];rw[cA (by simp[c]),e,cA (by rw[i,eT];simp),f];simp
   ·have:dR k v (a,false) p=(a++[(k,v)]++[p],true):=by simp[dR,h,i]
    have o:ep k p.1=true:=by
     cases j:ep k p.1 with
     |true=>rfl
     |false=>exact absurd (lk c j) i
    rw[this,yA,g];simp only[pX,c,sI];rw[cA (by simp[c]),e,dW (by simp[o]),f];simp
def GV{l:List KV}(s:tq l)(k v:aa)(g:Bool):rC l k v g=l.filter (λp=>ep p.1 k)++(if g then []else [(k,v)])++l.filter (λp=>ep k p.1):=by
 have h:l.filter (λp=>!decide (p.1=k))=l.filter (λp=>ep p.1 k)++l.filter (λp=>ep k p.1):=by
  clear v g;induction l with
  |nil=>rfl
  |cons p r o=>
   obtain⟨j,m⟩:=bL.1 s;cases e:ep p.1 k with
   |true=>
    rw[dW (by simp[kp e]),dW (by simp[e]),cA (by simp[fV e]),o m];rfl
   |false=>
    have d:∀q∈r,ep k q.1=true:=λq c=>sZ e (j q c);have a:r.filter (λp=>ep p.1 k)=[]:=gF.2 (λq c=>by simp[fV (d q c)]);have b:r.filter (λp=>ep k p.1)=r:=ff.2 (λq c=>d q c);have f:r.filter (λp=>!decide (p.1=k))=r:=ff.2 (λq c=>by have:=kp (d q c);simp;exactλi=>this i.symm);by_cases g:p.1=k
    ·rw[cA (by simp[g]),cA (by simp[e]),cA (by rw[g,eT];simp),a,b,f];rfl
    ·have n:ep k p.1=true:=by
      cases i:ep k p.1 with
      |true=>rfl
      |false=>exact absurd (lk e i) g
     rw[dW (by simp[g]),cA (by simp[e]),dW (by simp[n]),a,b,f];rfl
 unfold rC mh;cases g with
 |true=>
  rw[yA];simp only[cL,ite_true,cN];exact h
 |false=>
  rw[Ir k v l [] s];by_cases e:l.all (λp=>ep p.1 k)=true
  ·rw[dr e];rw[kE]at e;have a:l.filter (λp=>ep p.1 k)=l:=ff.2 e;have b:l.filter (λp=>ep k p.1)=[]:=gF.2 (λq c=>by simp[fV (e q c)]);rw[a,b];simp
  ·rw[dd e];simp
def KG{l:List KV}(h:tq l)(k v:aa)(d:Bool):tq (rC l k v d):=by
 rw[GV h];refine bU.2 ⟨bU.2 ⟨jS eE h,?_,?_⟩,jS eE h,?_⟩
 ·cases d<;>simp
 ·intro c a e b;cases d with
  |true=>simp at b
  |false=>simp at a b;rw[b];exact a.2
 ·intro c a e b;simp only[eH]at b;rcases aw.1 a with a|a
  ·simp only[eH]at a;exact iR a.2 b.2
  ·cases d with
   |true=>simp at a
   |false=>simp at a;rw[a];exact b.2
def Lq{l:List KV}(h:tq l){k v:aa}{d:Bool}{p:KV}:p∈rC l k v d↔(p.1≠k/\p∈l)\/(d=false/\p=(k,v)):=by
 rw[GV h];simp only[aw,eH];constructor
 ·rintro((⟨a,b⟩|a)|⟨a,b⟩)
  ·exact .inl ⟨kp b,a⟩
  ·cases d with
   |true=>simp at a
   |false=>simp at a;exact .inr ⟨rfl,a⟩
  ·exact .inl ⟨λe=>kp b e.symm,a⟩
 ·rintro(⟨a,b⟩|⟨rfl,rfl⟩)
  ·cases c:ep p.1 k with
   |true=>exact .inl (.inl ⟨b,rfl⟩)
   |false=>
    cases e:ep k p.1 with
    |true=>exact .inr ⟨b,rfl⟩
    |false=>exact absurd (lk c e) a
  ·exact .inl (.inr (by simp))
def tq.zW{l:List KV}(i:tq l){d e:KV}(b:d∈l)(c:e∈l)(f:d.1=e.1):d=e:=by
 induction l with
 |nil=>cases b
 |cons x r h=>
  obtain⟨a,g⟩:=bL.1 i;rcases aD.1 b with p|p
  ·rcases aD.1 c with q|q
   ·rw[p,q]
   ·rw[p]at f;exact absurd f (kp (a e q))
  ·rcases aD.1 c with q|q
   ·rw[q]at f;exact absurd f.symm (kp (a d p))
   ·exact h g p q
def tq.ext{l m:List KV}(k:tq l)(n:tq m)(e:∀x,x∈l↔x∈m):l=m:=by
 induction l generalizing m with
 |nil=>
  cases m with
  |nil=>rfl
  |cons y r=>exact absurd ((e y).2 (by simp)) (by simp)
 |cons x r g=>
  cases m with
  |nil=>exact absurd ((e x).1 (by simp)) (by simp)
  |cons y s=>
   obtain⟨c,f⟩:=bL.1 k;obtain⟨d,h⟩:=bL.1 n;have b:x=y:=by
    rcases aD.1 ((e x).1 (by simp))with p|p
    ·exact p
    ·rcases aD.1 ((e y).2 (by simp))with q|q
     ·exact q.symm
     ·have j:=d x p;have i:=c y q;rw[fV j]at i;cases i
   subst b;congr 1;refine g f h (λz=>⟨λa=>?_,λa=>?_⟩)
   ·rcases aD.1 ((e z).1 (aJ _ a))with p|p
    ·have:=c z a;rw[p,eT]at this;cases this
    ·exact p
   ·rcases aD.1 ((e z).2 (aJ _ a))with p|p
    ·have:=d z a;rw[p,eT]at this;cases this
    ·exact p
def tz(a:List (List E))(l:List KV):Prop:=tq l/\∀k v,(k,v)∈l↔seen a k=some v
def tz.congr{a b:List (List E)}{l:List KV}(h:tz a l)(e:∀k,seen b k=seen a k):tz b l:=⟨h.1,λk v=>by rw[e k];exact h.2 k v⟩
def My{a:List (List E)}(h:∀r∈a,r=[]):tz a []:=by
 refine⟨dK,λk v=>?_⟩;have:nu a k=none:=by
  unfold nu;rw[List.findSome?_eq_none_iff];intro r b;rw[h r b];rfl
 simp[seen,this]
def Mx{b:List E}{a:List (List E)}{l:List KV}(g:fG b)(h:tz (b::a) l)(e:E):tz (kn b e::a) (rC l e.key e.val e.del):=by
 refine⟨KG h.1 _ _ _,λk v=>?_⟩;rw[Lq h.1];simp only;have c:seen (kn b e::a) k=if k=e.key then(if e.del then none else some e.val)else seen (b::a) k:=by
  unfold seen;rw[ld,ld,Er g];split
  ·simp
  ·rfl
 rw[c,h.2 k v];by_cases f:k=e.key
 ·rw[dr f];cases hd:e.del with
  |true=>simp[f]
  |false=>simp[f];exact eq_comm
 ·rw[dd f];constructor
  ·rintro(⟨_,d⟩|⟨_,d⟩)
   ·exact d
   ·simp only[eY]at d;exact absurd d.1 f
  ·intro d;exact .inl ⟨f,d⟩
def JR{b:List (List E)}{l:List KV}(h:tz b l)(k:aa):kZ l k=match seen b k with|some v=>(v,true)|none=>(⟨#[]⟩,false):=by
 have H:∀m:List KV,(∀p∈m,p∈l)->(∀v,seen b k=some v->(k,v)∈m)->kZ m k=match seen b k with|some v=>(v,true)|none=>(⟨#[]⟩,false):=by
  intro m;induction m with
  |nil=>
   intro _ c;cases hs:seen b k with
   |none=>rfl
   |some v=>exact absurd (c v hs) (by simp)
  |cons p r g=>
   intro e c;unfold kZ;split
   ·rename_i a;have:seen b k=some p.2:=(h.2 k p.2).1 (by rw[<-a];exact e p (by simp));rw[this]
   ·rename_i a;refine g (λq f=>e q (by simp[f])) (λv d=>?_);rcases aD.1 (c v d)with q|q
    ·rw[<-q]at a;exact absurd rfl a
    ·exact q
 exact H l (λp a=>a) (λv d=>(h.2 k v).2 d)
def tR(e:E):KV:=(e.key,e.val)
def JQ{e:List (List E)}{q:List KV}(o:tz e q)(l:∀k j,nu e k=some j->j.key=k)(i:aa){c:List E}(m:fG c)(h:∀x,x∈c↔nu e x.key=some x/\ep x.key i=false):(c.filter (λj=>!j.del)).map tR=q.filter (λp=>zw p.1 i):=by
 refine tq.ext ?_ (jS eE o.1) (λp=>?_)
 ·unfold tq;rw[jW];exact m.sub eE
 ·obtain⟨k,v⟩:=p;simp only[aZ,eH,vv];rw[o.2 k v];constructor
  ·rintro⟨x,⟨n,d⟩,b⟩;obtain⟨a,f⟩:=(h x).1 n;simp only[tR,eY]at b;obtain⟨rfl,rfl⟩:=b;have g:x.del=false:=by simpa using d
   exact⟨by simp[seen,a,g],by simp[f]⟩
  ·rintro⟨a,f⟩;unfold seen at a;cases hh:nu e k with
   |none=>rw[hh]at a;cases a
   |some x=>
    rw[hh]at a;simp only[qu]at a;have b:=l k x hh;cases d:x.del with
    |true=>rw[d]at a;cases a
    |false=>
     rw[d]at a;refine⟨x,⟨(h x).2 ⟨by rw[b];exact hh,by rw[b];simpa using f⟩,by simp[d]⟩,?_⟩;simp only[tR,eY];refine⟨b,?_⟩;simpa using a
def pC(a:aa)(limit:Int):List KV->List KV->List KV
 |out,[]=>out
 |out,p::r=>if(!(a.toList==[])&&!ep p.1 a)=true then out else if((out.length:Int)+1==limit)=true then out++[p]else pC a limit (out++[p]) r
def ME{c b:aa}{limit:Int}{a r:List KV}(h:0<limit)(g:limit<=a.length):r.foldl (gW c b limit) a=a:=by
 induction r with
 |nil=>rfl
 |cons p r f=>
  rw[eh];have:gW c b limit a p=a:=by
   unfold gW nD;have d:decide (limit<=0)=false:=by simp;omega
   have e:decide ((a.length:Int)<limit)=false:=by simp;omega
   rw[d,e];simp
  rw[this,f]
def Pa{d b:aa}{limit:Int}{a r:List KV}(f:(b.toList==[])=false)(c:∀p∈r,ep p.1 b=false):r.foldl (gW d b limit) a=a:=by
 induction r with
 |nil=>rfl
 |cons p r g=>
  rw[eh];have:gW d b limit a p=a:=by
   unfold gW nD;have e:Op.bytesLess p.1.toList b.toList=false:=c p (by simp);rw[f,e];simp
  rw[this,g (λp a=>c p (by simp[a]))]
def NH{g b:aa}{limit:Int}{m a:List KV}(r:tq m)(j:∀p∈m,ep p.1 g=false)(n:limit<=0\/(a.length:Int)<limit):pC b limit a m=m.foldl (gW g b limit) a:=by
 induction m generalizing a with
 |nil=>rfl
 |cons p t s=>
  obtain⟨k,l⟩:=bL.1 r;have o:zw p.1 g=true:=by rw[vv,j p (by simp)];rfl
  have f:(decide (limit<=0)||decide ((a.length:Int)<limit))=true:=by simpa using n
  unfold pC;split
  ·rename_i c;simp at c;refine(Pa (by simpa using c.1) ?_).symm;intro q h;rcases aD.1 h with e|e
   ·rw[e];exact c.2
   ·cases d:ep q.1 b with
    |false=>rfl
    |true=>have:=iR (k q e) d;rw[c.2]at this;cases this
  ·rename_i c;have i:gW g b limit a p=a++[p]:=by
    unfold gW nD;rw[o,f];have:((b.toList==[])||Op.bytesLess p.1.toList b.toList)=true:=by
     cases d:(b.toList==[])with
     |true=>rfl
     |false=>
      rw[d]at c;show(false||ep p.1 b)=true;simpa using c
    rw[this];rfl
   rw[eh,i];split
   ·rename_i e;have:(a.length:Int)+1=limit:=by simpa using e
    exact(ME (by omega) (by simp;omega)).symm
   ·rename_i e;refine s l (λq h=>j q (by simp[h])) ?_;have:¬(a.length:Int)+1=limit:=by simpa using e
    simp;omega
def MF(l:List KV)(b d:aa)(limit:Int):jV l b d limit=(l.filter (λp=>zw p.1 b)).foldl (gW b d limit) []:=by
 unfold jV;generalize([]:List KV)=a;induction l generalizing a with
 |nil=>rfl
 |cons p r e=>
  cases c:zw p.1 b with
  |true=>rw[dW (by simp[c]),eh,eh,e]
  |false=>
   have:gW b d limit a p=a:=by unfold gW nD;rw[c];simp
   rw[cA (by simp[c]),eh,this,e]
def GG{c:List (List E)}{l:List KV}(j:tz c l)(h:∀k e,nu c k=some e->e.key=k)(b d:aa)(limit:Int){a:List E}(g:fG a)(i:∀x,x∈a↔nu c x.key=some x/\ep x.key b=false):pC d limit [] ((a.filter (λe=>!e.del)).map tR)=jV l b d limit:=by
 have e:=JQ j h b g i;rw[MF,<-e];refine NH ?_ ?_ ?_
 ·unfold tq;rw[jW];exact g.sub eE
 ·intro p f;rw[e,eH,vv]at f;simpa using f.2
 ·simp only[cH];omega
structure CG(w:J)(g:Nat)(bs:List Int)(safe:Int):Prop where
 fN:∃v,w.heap[g]?=some (.cells #[v,.int .i64 safe] 122 (0,0))/\Bytes w v bs/\v.ownBlock≠some g
def Bytes.shape{w:J}{v:M}{c:List Int}(h:Bytes w v c):v=.slice none 0 0/\c=[]\/∃e b a,v=.slice (some ⟨e,b,none⟩) c.length a/\c.length<=a:=by
 rcases h with h|⟨e,b,a,h,d,_⟩
 ·exact .inl h
 ·exact .inr ⟨e,b,a,h,d⟩
def KE(e g sb:Nat)(m:M)(b reads iB:Int)(s:dA)(a:aa)(n:Nat)(d:List Int)(c:Int)(w:J)(x:kR w e g sb m b reads iB)(k:eC w g s)(i:s.get a=some (.pointer (some ⟨n,0,none⟩)))(l:CG w n d c)(y:d.length<=140737488351232):Calls prog 126 #[.pointer (some ⟨e,0,none⟩),.string a] w λv u=>v=.returned (.tuple #[.int .i64 d.length,.nilIface])/\u=w:=by
 obtain⟨z,j,h,_⟩:=l.fN;have q:w.cell? ⟨n,0,none⟩=some z:=by rw[aj j];rfl
 have o:=Z (qS e g sb m b reads iB s a ⟨n,0,none⟩ w x k i);have f:=h.shape;clear l j h x k i;rcases f with⟨rfl,rfl⟩|⟨B,t,p,rfl,r⟩;all_goals
  go_enter func126,ntmps126
  go_wp2_with(first
   |(go_at_call 117;refine(Y o).mono ?_;rintro v A⟨rfl,rfl⟩))
  go_ret2
  exact⟨rfl,rfl⟩
def Ip(c d sb:Nat)(g:M)(b reads iB:Int)(m:dA)(a:aa)(w:J)(k:kR w c d sb g b reads iB)(f:eC w d m)(e:m.get a=none):Calls prog 126 #[.pointer (some ⟨c,0,none⟩),.string a] w λj i=>j=.returned (.tuple #[.int .i64 0,.iface 225 (.pointer (some ⟨w.heap.size,0,none⟩))])/\i=w.alloc (.cells #[.string a,.int .i64 10] 227):=by
 have h:=Z (Jz c d sb g b reads iB m a w k f e);clear k f e;go_enter func126,ntmps126
 go_wp2_with(first
  |(go_at_call 117;refine(Y h).mono ?_;rintro j l⟨rfl,rfl⟩))
 go_ret2
 exact⟨rfl,rfl⟩
def Kz(h k sb:Nat)(o:M)(c reads iB:Int)(y:dA)(a:aa)(g:Nat)(b:List Int)(d:Int)(w:J)(B:kR w h k sb o c reads iB)(m:eC w k y)(l:y.get a=some (.pointer (some ⟨g,0,none⟩)))(n:CG w g b d)(D:b.length<=140737488351232):Calls prog 74 #[.pointer (some ⟨h,0,none⟩),.string a] w λA p=>A=.returned .nilIface/\CG p g b b.length/\p=w.setCell ⟨g,1,none⟩ (.int .i64 b.length):=by
 obtain⟨C,f,i,e⟩:=n.fN;have t:w.cell? ⟨g,0,none⟩=some C:=by rw[aj f];rfl
 have v:w.frozen? ⟨g,1,none⟩=false:=cG f;have u:w.cell? ⟨g,1,none⟩=some (.int .i64 d):=by rw[aj f];rfl
 have r:=Z (qS h k sb o c reads iB y a ⟨g,0,none⟩ w B m l);have q:=Z (show CG (w.setCell ⟨g,1,none⟩ (.int .i64 b.length)) g b b.length from⟨C,by rw[aL f];rfl,i.grown (co w g 1 _) (.inl e),e⟩);have j:=i.shape;clear n f i B m l e;rcases j with⟨rfl,rfl⟩|⟨G,z,s,rfl,x⟩;all_goals
  go_enter func74,ntmps74
  go_wp2_with(first
   |(go_at_call 117;refine(Y r).mono ?_;rintro A E⟨rfl,rfl⟩))
  go_ret;exact⟨rfl,Y q,rfl⟩
def ly:Option Nat->M
 |none=>.pointer none
 |some g=>.pointer (some ⟨g,0,none⟩)
abbrev Mv:=aa×Option Nat
def rH(p:Mv):List M:=[.string p.1,ly p.2]
def kY(l:List Mv):List M:=l.flatMap rH
def Kh(l:List Mv):(kY l).length=l.length*2:=by
 induction l with
 |nil=>rfl
 |cons p r a=>simp[kY,rH]at*;omega
def BQ(l:List Mv)(i:Nat)(h:i<l.length):(kY l)[i*2]?=some (.string l[i].1)/\(kY l)[i*2+1]?=some (ly l[i].2):=by
 induction l generalizing i with
 |nil=>simp at h
 |cons p r a=>
  cases i with
  |zero=>simp[kY,rH]
  |succ i=>
   have:=a i (by simpa using h);have e:(i+1)*2=i*2+2:=by omega
   rw[e];simpa[kY,rH]using this
def MM(w:J)(v:M)(l:List Mv):Prop:=Row w 2 v l.length (kY l)
def DH(m:dA)(x:Mv):dA:=match x.2 with
 |none=>m.del x.1
 |some g=>m.put x.1 (ly (some g))
def nN(m:dA)(l:List Mv):dA:=l.foldl DH m
def DG(m:dA)(l:List Mv)(n:Nat)(h:n<l.length):nN m (l.take (n+1))=DH (nN m (l.take n)) l[n]:=by
 unfold nN;rw[aq h,fR];rfl
def my{w:J}{b i:Nat}{u:M}(h:w.cell? ⟨b,i,none⟩=some u):b<w.heap.size:=by
 by_cases a:b<w.heap.size
 ·exact a
 ·unfold World.cell? at h;rw[dy (by simpa using a)]at h;simp at h
def eC.ne{w:J}{g b' i:Nat}{m:dA}{u:M}(l:eC w g m)(d:w.cell? ⟨b',i,none⟩=some u):b'≠g:=by
 obtain⟨k,b,e,_⟩:=l;intro h;subst h;simp[World.cell?,e]at d
def AO(g:Nat)(E:dA)(m:List Mv)(U:M)(w:J)(u:eC w g E)(N:MM w U m)(X:m.length<=1000000000000):Calls prog 120 #[.map (some g),U] w λV G=>V=.returned (.tuple #[])/\eC G g (nN E m)/\w.grownBy G (some g):=by
 obtain⟨L,⟨rfl,K⟩|⟨B,r,H,rfl,O,C⟩⟩:=N
 ·obtain rfl:m=[]:=aG K;have s:=Z u;clear u;go_enter func120,ntmps120
  go_wp2;go_loopw [8] (λD wr=>D=.int .i64 0/\wr=w) (λ_ _=>0)
  case atStart=>exact⟨rfl,rfl⟩
  case round=>
   obtain⟨rfl,rfl⟩:=hrel;go_wp2;go_end0;exact⟨rfl,Y s,pa _ _⟩
 ·have v:=Z C;have s:=Z u;clear C L u;go_enter func120,ntmps120
  go_wp2;go_loopw [8] (λD wr=>∃n:Nat,n<=m.length/\D=.int .i64 n/\eC wr g (nN E (m.take n))/\w.grownBy wr (some g)) (λD _=>m.length-(intOf D).toNat)
  case atStart=>exact⟨0,aU _,rfl,Y s,pa _ _⟩
  case round=>
   obtain⟨n,W,rfl,c,e⟩:=hrel;by_cases p:n<m.length
   ·have t:=BQ m n p;have j:=(Y v) _ _ t.1;have o:=my j;have q:=(Y s).ne j;have b:wr.heap[B]?=w.heap[B]?:=e.block B o (by simpa using q);have x:wr.cell? ⟨B,r+n*2,none⟩=some (.string m[n].1):=(bI (w:=w) b).trans ((Y v) _ _ t.1);have l:wr.cell? ⟨B,r+n*2+1,none⟩=some (ly m[n].2):=(bI (w:=w) b).trans (by rw[aP];exact(Y v) _ _ t.2);have A:=Z (DG E m n p);clear t j b o q;generalize nN E (m.take n)=R at*;generalize m[n]=ac at*;obtain⟨F,P⟩:=ac;simp only at x l;have y:=Z (λu=>c.alloc u);have z:=Z (λu=>e.trans (cD wr u (some g)));clear c e;cases P with
    |none=>
     simp only[ly]at l;go_wp2_with(first
      |(at_delete;refine ya _ rfl _ _ 70 9 rfl 118 underlying70 underlying9 g R rfl ((Y y) _) F rfl ?_;intro Q f d;have i:=Z f;have h:=Z d;clear f d))
     go_roundw;case rel=>exact⟨n+1,by omega,by go_num,by rw[Y A];exact Y i,((Y z) _).trans (Y h)⟩
     case measure=>simp[intOf];omega
    |some ad=>
     simp only[ly]at l;go_wp2_with(first
      |(at_mapUpdate;refine xZ _ rfl _ _ _ 70 rfl 9 118 underlying70 underlying9 g R rfl ((Y y) _) F _ rfl rfl ?_;intro Q f d;have i:=Z f;have h:=Z d;clear f d))
     go_roundw;case rel=>exact⟨n+1,by omega,by go_num,by rw[Y A];exact Y i,((Y z) _).trans (Y h)⟩
     case measure=>simp[intOf];omega
   ·have f:n=m.length:=by omega
    subst f;have d:=Z c;have b:=Z e;clear c e;go_wp2;go_end0;have:=Y d;rw[bD]at this;exact⟨rfl,this,Y b⟩
def Jn:(prog.info? 228).map (λi=>(i.zero,i.size,i.bytes))=some (some (.slice none 0 0),1,24):=by kernel_rfl
def pu(w:J)(x:M)(t:TypeId):∀j u,[x][j]?=some u->(w.alloc (.cells #[x] t)).cell? ((⟨w.heap.size,0,none⟩:Addr).add j)=some u:=by
 intro j u b;rw[ct];unfold World.cell?;rw[ew];simpa using b
structure zT(w w':J)(db nb sb:Nat)(mv:M)(room reads iB:Int)(m:dA)(n:Nat)(xs:List M)(mv':M):Prop where
 fN:kR w' db nb sb mv' room reads iB
 now:eC w' nb m
 steps:w'.ownsRow 0 228 1 mv' n xs
 ay:I (λk=>k=db\/k=nb\/mv.ownBlock=some k) w w'
 own:mv'.ownBlock=mv.ownBlock\/∃g,mv'.ownBlock=some g/\w.heap.size<=g
def zc(b h sb:Nat)(k G:M)(g reads iB:Int)(ad:dA)(v:List Mv)(ac:Nat)(D:List M)(w:J)(H:kR w b h sb k g reads iB)(F:eC w h ad)(S:MM w G v)(hr:v.length<=1000000000000)(A:w.ownsRow 0 228 1 k ac D)(hn:ac<=1000000000000):Calls prog 167 #[.pointer (some ⟨b,0,none⟩),G] w λp w'=>p=.returned (.tuple #[])/\∃X,zT w w' b h sb k g reads iB (nN ad v) (ac+1) (D++[G]) X:=by
 obtain⟨i0,R,U,V,W⟩:=bK Jn;have HS:=Z (AO h ad v G w F S hr);obtain⟨u,s,rfl⟩:=bA S;have N:w.cell? ⟨b,0,none⟩=some (.map (some h)):=by rw[aj H];rfl
 have l:b≠h:=F.ne N;have z:k.ownBlock≠some b:=um A H (by decide);have t:k.ownBlock≠some h:=by
  intro p;obtain⟨o,n⟩:=dS A p;obtain⟨C,B,y,_⟩:=F;rw[y]at n;cases n
 have j:∀d o i,eC d h (nN ad v)->w.grownBy d (some h)->i.ownsRow 0 228 1 o (ac+1) (D++[.slice u v.length s])->du (d.alloc (.cells #[.slice u v.length s] 228)) i k o->i.cell? ⟨b,2,none⟩=some k/\i.frozen? ⟨b,2,none⟩=false/\zT w (i.setCell ⟨b,2,none⟩ o) b h sb k g reads iB (nN ad v) (ac+1) (D++[.slice u v.length s]) o:=by
  intro d o i m c B n;have O:d.heap[b]?=w.heap[b]?:=c.block b (ak H) (by simpa using l);have y:b<d.heap.size:=ah (ak H) c.size;have Q:(d.alloc (.cells #[.slice u v.length s] 228)).heap[b]?=w.heap[b]?:=(Below.heap_alloc d _ b y).trans O;have P:i.heap[b]?=w.heap[b]?:=(n.grown.block b (by simp;omega) (λp=>z p.symm)).trans Q;have E:kR i b h sb k g reads iB:=P.trans H;have C:o.ownBlock≠some b:=um B E (by decide);refine⟨by rw[aj E];rfl,cG E,⟨?_,?_,?_,?_,?_⟩⟩
  ·unfold kR;rw[aL E];rfl
  ·exact((m.alloc _).kept n.grown (λp=>t p.symm)).kept (co i b 2 o) (by simp;exactλp=>l p.symm)
  ·exact B.kept (co i b 2 o) (.inr C)
  ·refine((I.bz c (by rintro ax⟨⟩;exact .inl (.inr (.inl rfl)))).alloc (.cells #[.slice u v.length s] 228)).trans (T:=λax=>k.ownBlock=some ax) (I.bz n.grown (λax p=>.inl p)) (λx p=>.inl (.inr (.inr p)))|>.setCell b 2 o (.inl (.inl rfl))
  ·rcases n.sr with p|⟨ax,p,hg⟩
   ·exact .inl p
   ·exact .inr ⟨ax,p,by have:=c.size;simp at hg;omega⟩
 have HG:=Z j;have HO:=Z (λd(c:w.grownBy d (some h))=>(A.kept c (.inr t)).alloc (.cells #[.slice u v.length s] 228));have K:=Z (λd(c:w.grownBy d (some h))=>(bI (w:=w) (a:=⟨b,2,none⟩) (c.block b (ak H) (by simpa using l))).trans (show w.cell? ⟨b,2,none⟩=some k by rw[aj H];rfl));obtain⟨xm,cm,rfl⟩:=aC A;clear H F S A j z t l;go_enter func167,ntmps167
 go_wp2_with(first
  |(go_at_call 120;refine(Y HS).mono ?_;rintro p d⟨rfl,m,c⟩;have al:=(Y K) d c;have L:=Z m;have x:=Z c;clear m c)
  |(at_builtin;refine aX _ rfl (.tmp 14) (.tmp 16) 71 rfl 0 228 i0 (.slice none 0 0) 1 24 underlying71 R U V W rfl (by decide) _ ac D rfl ((Y HO) d (Y x)) ⟨d.heap.size,0,none⟩ 1 1 [.slice u v.length s] rfl rfl (pu _ _ _) (by simp[Value.oneCell']) (by omega) (by omega) (aU _) ?_;intro v2 i e r;obtain⟨an,ao,q⟩:=(Y HG) d v2 i (Y L) (Y x) e r;obtain⟨x2,c2,rfl⟩:=aC e;have HF:=Z q;clear e r q))
 go_end0;exact⟨rfl,_,Y HF⟩
structure bY where
 name:aa
 lM:Nat
 data:M
 bytes:List Int
 safe:Int
def bY.nm(f:bY):aa×M:=(f.name,ly (some f.lM))
structure DK where
 nb:Nat
 sb:Nat
 mv:M
 reads:Int
 iB:Int
 files:List bY
 sm:dA
 cY:List (M×List Mv)
def tw(w:J)(f:bY):Prop:=w.heap[f.lM]?=some (.cells #[f.data,.int .i64 f.safe] 122 (0,0))/\dq w 0 f.data f.bytes/\iq f.bytes
def pz(w:J)(x:M×List Mv):Prop:=MM w x.1 x.2/\x.2.length<=2/\∀k,x.1.ownBlock=some k->∃a b,w.heap[k]?=some (.cells a 281 b)
def jQ(f g:bY):Prop:=f.lM≠g.lM/\∀k,f.data.ownBlock=some k->g.data.ownBlock≠some k
def jQ.symm{f g:bY}(h:jQ f g):jQ g f:=⟨λe=>h.1 e.symm,λk e d=>h.2 k d e⟩
structure bR(w:J)(db:Nat)(K:DK):Prop where
 fN:kR w db K.nb K.sb K.mv 1099511627776 K.reads K.iB
 now:eC w K.nb (K.files.map bY.nm)
 safe:eC w K.sb K.sm
 ne:K.nb≠K.sb
 steps:w.ownsRow 0 228 1 K.mv K.cY.length (K.cY.map (·.1))
 each:∀x∈K.cY,pz w x
 files:∀f∈K.files,tw w f
 apart:K.files.Pairwise jQ
def DK.aS(a:Nat)(K:DK)(k:Nat):Prop:=k=a\/k=K.nb\/k=K.sb\/K.mv.ownBlock=some k\/(∃x∈K.cY,x.1.ownBlock=some k)\/∃f∈K.files,f.lM=k\/f.data.ownBlock=some k
def tw.ay{S:Nat->Prop}{w w':J}{f:bY}(h:tw w f)(a:I S w w')(d:¬S f.lM)(e:∀k,f.data.ownBlock=some k->¬S k):tw w' f:=⟨(a.block _ (ak h.1) d).trans h.1,a.own h.2.1 e,h.2.2⟩
def pz.ay{S:Nat->Prop}{w w':J}{x:M×List Mv}(A:pz w x)(r:I S w w')(h:∀k,x.1.ownBlock=some k->¬S k):pz w' x:=by
 obtain⟨y,z,o⟩:=A;refine⟨r.row y (λk e=>⟨h k e,?_⟩),z,λk e=>?_⟩
 ·obtain⟨a,g,d⟩:=o k e;exact ak d
 ·obtain⟨a,g,d⟩:=o k e;exact⟨a,g,(r.block k (ak d) (h k e)).trans d⟩
def eC.ay{S:Nat->Prop}{w w':J}{b:Nat}{m:dA}(r:eC w b m)(o:I S w w')(g:¬S b):eC w' b m:=by
 obtain⟨e,d,a,h⟩:=r;exact⟨e,d,(o.block b (ak a) g).trans a,h⟩
def eC.tag{w:J}{e:Nat}{m:dA}(i:eC w e m){b:Array M}{t:Nat}{c:Nat×Nat}{k:Nat}(a:w.heap[k]?=some (.cells b t c)):k≠e:=by
 obtain⟨h,f,d,_⟩:=i;intro g;subst g;rw[d]at a;cases a
def fj{w:J}{h j:Nat}{b d:Array M}{t u:Nat}{e f:Nat×Nat}(g:w.heap[h]?=some (.cells b t e))(a:w.heap[j]?=some (.cells d u f))(m:t≠u):h≠j:=by
 intro l;subst l;rw[g]at a;cases a;exact m rfl
def bR.lt{w:J}{a:Nat}{K:DK}(h:bR w a K):∀k,K.aS a k->k<w.heap.size:=by
 rintro k(rfl|rfl|rfl|e|⟨x,g,e⟩|⟨f,b,rfl|e⟩)
 ·exact ak h.fN
 ·exact h.now.lt
 ·exact h.safe.lt
 ·exact(aK h.steps k e).2
 ·obtain⟨_,_,d⟩:=(h.each x g).2.2 k e;exact ak d
 ·exact ak (h.files f b).1
 ·exact(aK (h.files f b).2.1 k e).2
def bR.ay{S:Nat->Prop}{w w':J}{e:Nat}{K:DK}(h:bR w e K)(d:I S w w')(a:∀k,K.aS e k->¬S k):bR w' e K where
 fN:=(d.block e (ak h.fN) (a _ (.inl rfl))).trans h.fN
 now:=h.now.ay d (a _ (.inr (.inl rfl)))
 safe:=h.safe.ay d (a _ (.inr (.inr (.inl rfl))))
 ne:=h.ne
 steps:=d.own h.steps (λ_ g=>a _ (.inr (.inr (.inr (.inl g)))))
 each x hx:=(h.each x hx).ay d (λ_ g=>a _ (.inr (.inr (.inr (.inr (.inl ⟨x,hx,g⟩))))))
 files f hf:=(h.files f hf).ay d (a _ (.inr (.inr (.inr (.inr (.inr ⟨f,hf,.inl rfl⟩)))))) (λ_ g=>a _ (.inr (.inr (.inr (.inr (.inr ⟨f,hf,.inr g⟩))))))
 apart:=h.apart
def bR.alloc{w:J}{d:Nat}{K:DK}(h:bR w d K)(o:Obj):bR (w.alloc o) d K:=h.ay ((I.refl (λ_=>False) w).alloc o) (λ_ _=>id)
def bR.named{w q:J}{k:Nat}{K:DK}{m j:M}{A:List Mv}{l:List bY}(h:bR w k K)(g:zT w q k K.nb K.sb K.mv 1099511627776 K.reads K.iB (l.map bY.nm) (K.cY.length+1) (K.cY.map (·.1)++[m]) j)(z:pz w (m,A))(p:∀s∈l,tw w s)(y:l.Pairwise jQ):bR q k {K with mv:=j,files:=l,cY:=K.cY++[(m,A)]}:=by
 have b:∀{n t:Nat}{r:Array M}{o:Nat×Nat},w.heap[n]?=some (.cells r t o)->t≠73->t≠228->¬(n=k\/n=K.nb\/K.mv.ownBlock=some n):=by
  rintro n t r o f u v(e|e|e)
  ·exact fj f h.fN u e
  ·exact h.now.tag f e
  ·obtain⟨d,i⟩:=dS h.steps e;exact fj f i v rfl
 have a:∀x,pz w x->pz q x:=λx c=>c.ay g.ay (λn e=>by
  obtain⟨d,o,f⟩:=c.2.2 n e;exact b f (by decide) (by decide))
 refine⟨g.fN,g.now,h.safe.ay g.ay ?_,h.ne,?_,?_,?_,y⟩
 ·rintro(e|e|e)
  ·exact h.safe.tag h.fN e.symm
  ·exact h.ne e.symm
  ·obtain⟨d,i⟩:=dS h.steps e;exact h.safe.tag i rfl
 ·have:=g.steps;simpa using this
 ·intro x c;rcases aw.1 c with c|c
  ·exact a x (h.each x c)
  ·obtain rfl:x=(m,A):=by simpa using c
   exact a _ z
 ·intro s f;refine(p s f).ay g.ay (b (p s f).1 (by decide) (by decide)) (λn e=>?_);obtain⟨d,i⟩:=dS (p s f).2.1 e;exact b i (by decide) (by decide)
def zT.aS{w w':J}{d:Nat}{K:DK}{e a:M}{l:List Mv}{h:List bY}{m:dA}{n:Nat}{x:List M}(q:zT w w' d K.nb K.sb K.mv 1099511627776 K.reads K.iB m n x a){B:Nat}(z:B<=w.heap.size)(t:∀k,e.ownBlock=some k->B<=k)(r:∀f∈h,∀k,(f.lM=k\/f.data.ownBlock=some k)->K.aS d k\/B<=k):∀k,({K with mv:=a,files:=h,cY:=K.cY++[(e,l)]}:DK).aS d k->K.aS d k\/B<=k:=by
 rintro k(rfl|rfl|rfl|g|⟨y,b,g⟩|⟨f,o,g⟩)
 ·exact .inl (.inl rfl)
 ·exact .inl (.inr (.inl rfl))
 ·exact .inl (.inr (.inr (.inl rfl)))
 ·rcases q.own with e'|⟨C,e',A⟩
  ·exact .inl (.inr (.inr (.inr (.inl (e'.symm.trans g)))))
  ·rw[show({K with mv:=a,files:=h,cY:=K.cY++[(e,l)]}:DK).mv=a from rfl,e']at g;cases g;exact .inr (by omega)
 ·rcases aw.1 b with b|b
  ·exact .inl (.inr (.inr (.inr (.inr (.inl ⟨y,b,g⟩)))))
  ·obtain rfl:y=(e,l):=by simpa using b
   exact .inr (t k g)
 ·exact r f o k g
def Cg{m:dA}{k:aa}(h:m.get k=none)(v:M):m.put k v=m++[(k,v)]:=by
 induction m with
 |nil=>rfl
 |cons p r b=>
  by_cases a:p.1=k
  ·simp[dA.get,a]at h
  ·simp[dA.get,a]at h;simp[dA.put,a,b h]
structure nJ(w w':J)(db:Nat)(K K':DK):Prop where
 ok:bR w' db K'
 ay:I (K.aS db) w w'
 aS:∀k,K'.aS db k->K.aS db k\/w.heap.size<=k
def zd(m:dA)(x:Mv):nN m [x]=DH m x:=rfl
def xz(c:Nat)(K:DK)(a:aa)(w:J)(q:bR w c K)(t:dA.get (K.files.map bY.nm) a=none)(H:K.cY.length<=1000000000000):Calls prog 111 #[.pointer (some ⟨c,0,none⟩),.string a] w λe p=>e=.returned .nilIface/\∃g,nJ w p c K g/\g.files=K.files++[⟨a,w.heap.size,.slice none 0 0,[],0⟩]/\g.cY.length=K.cY.length+1:=by
 obtain⟨Q,G,u,_,_⟩:=bK pR;have z:=pL underlying70 underlying9 G u q.now a;rw[t]at z;simp only[Option.getD_none]at z;have F:w.cell? ⟨c,0,none⟩=some (.map (some K.nb)):=by rw[aj q.fN];rfl
 have B:=Z (tM c K.nb K.sb K.mv 1099511627776 K.reads K.iB w q.fN);have f:∃W:J,W=(w.alloc (.cells #[.slice none 0 0,.int .i64 0] 122)).alloc (.cells #[.string a,.pointer (some ⟨w.heap.size,0,none⟩)] 281)/\Calls prog 167 #[.pointer (some ⟨c,0,none⟩),.slice (some ⟨w.heap.size+1,0,none⟩) 1 1] W λe p=>e=.returned (.tuple #[])/\∃g,nJ w p c K g/\g.files=K.files++[⟨a,w.heap.size,.slice none 0 0,[],0⟩]/\g.cY.length=K.cY.length+1:=by
  refine⟨_,rfl,?_⟩;have l:=(q.alloc (.cells #[.slice none 0 0,.int .i64 0] 122)).alloc (.cells #[.string a,.pointer (some ⟨w.heap.size,0,none⟩)] 281);have j:(w.alloc (.cells #[.slice none 0 0,.int .i64 0] 122)).heap[w.heap.size]?=some (.cells #[.slice none 0 0,.int .i64 0] 122 (0,0)):=ew _ _;have d:=(Below.heap_alloc (w.alloc (.cells #[.slice none 0 0,.int .i64 0] 122)) (.cells #[.string a,.pointer (some ⟨w.heap.size,0,none⟩)] 281) w.heap.size (by simp)).trans j;have m:((w.alloc (.cells #[.slice none 0 0,.int .i64 0] 122)).alloc (.cells #[.string a,.pointer (some ⟨w.heap.size,0,none⟩)] 281)).heap[w.heap.size+1]?=some (.cells #[.string a,.pointer (some ⟨w.heap.size,0,none⟩)] 281 (0,0)):=by
   have:=ew (w.alloc (.cells #[.slice none 0 0,.int .i64 0] 122)) (.cells #[.string a,.pointer (some ⟨w.heap.size,0,none⟩)] 281);simpa using this
  generalize s:((w.alloc (.cells #[.slice none 0 0,.int .i64 0] 122)).alloc (.cells #[.string a,.pointer (some ⟨w.heap.size,0,none⟩)] 281))=W at*;have k:∀S,I S w W:=λS=>by rw[<-s];exact((I.refl S w).alloc _).alloc _
  have n:pz W (.slice (some ⟨w.heap.size+1,0,none⟩) 1 1,[(a,some w.heap.size)]):=by
   refine⟨show Row _ _ _ _ _ from⟨rfl,.inr ⟨w.heap.size+1,0,1,rfl,ai _,λE O D=>?_⟩⟩,by simp,λL e=>?_⟩
   ·rw[cw,aj m];simpa[kY,rH,ly]using D
   ·cases e;exact⟨_,_,m⟩
  refine(zc c K.nb K.sb K.mv _ 1099511627776 K.reads K.iB (K.files.map bY.nm) [(a,some w.heap.size)] K.cY.length (K.cY.map (·.1)) W l.fN l.now n.1 (by simp) l.steps H).mono ?_;rintro e p⟨rfl,o,r⟩;refine⟨rfl,{K with mv:=o,files:=K.files++[bY.mk a w.heap.size (.slice none 0 0) [] 0],cY:=K.cY++[(.slice (some ⟨w.heap.size+1,0,none⟩) 1 1,[(a,some w.heap.size)])]},?_,rfl,by simp⟩;have h:zT W p c K.nb K.sb K.mv 1099511627776 K.reads K.iB ((K.files++[bY.mk a w.heap.size (.slice none 0 0) [] 0]).map bY.nm) (K.cY.length+1) (K.cY.map (·.1)++[.slice (some ⟨w.heap.size+1,0,none⟩) 1 1]) o:=by
   rw[zd]at r;simp only[DH,Cg t]at r;simpa[bY.nm]using r
  refine⟨l.named h n ?_ ?_,?_,?_⟩
  ·intro x b;rcases aw.1 b with b|b
   ·exact l.files x b
   ·obtain rfl:x=⟨a,w.heap.size,.slice none 0 0,[],0⟩:=by simpa using b
    exact⟨d,dq.nil _ _,by intro R D;simp at D⟩
  ·refine bU.2 ⟨q.apart,by simp,λO D P E=>?_⟩;obtain rfl:P=⟨a,w.heap.size,.slice none 0 0,[],0⟩:=by simpa using E
   refine⟨λe=>?_,λL _ e=>by cases e⟩;have:=ak (q.files O D).1;simp only at e;omega
  ·exact(k _).trans h.ay (by
    rintro R(rfl|rfl|e)
    ·exact .inl (.inl rfl)
    ·exact .inl (.inr (.inl rfl))
    ·exact .inl (.inr (.inr (.inr (.inl e)))))
  ·refine h.aS (k (λ_=>False)).size (λL e=>by cases e;exact Nat.le_succ _) (λx b L e=>?_);rcases aw.1 b with b|b
   ·exact .inl (.inr (.inr (.inr (.inr (.inr ⟨x,b,e⟩)))))
   ·obtain rfl:x=⟨a,w.heap.size,.slice none 0 0,[],0⟩:=by simpa using b
    rcases e with e|e
    ·exact .inr (by simp only at e;omega)
    ·cases e
 obtain⟨W,s,f⟩:=f;have C:=Z f;clear f q t;go_enter func111,ntmps111
 go_wp2_with(first
  |(go_at_call 119;refine(Y B).mono ?_;rintro e N⟨rfl,rfl⟩)
  |(go_at_call 167;subst s;refine ue (by simpa using Y C) ?_;rintro e N⟨rfl,y⟩;have A:=Z y;clear y))
 go_ret;exact⟨rfl,Y A⟩
def kI:List bY->aa->Option bY
 |[],_=>none
 |f::r,n=>if f.name=n then some f else kI r n
def lO:List bY->aa->List bY
 |[],_=>[]
 |f::r,n=>if f.name=n then r else f::lO r n
def kM:List bY->bY->List bY
 |[],f=>[f]
 |g::r,f=>if g.name=f.name then f::r else g::kM r f
def Ey(a:List bY)(n:aa):(lO a n).map bY.nm=dA.del (a.map bY.nm) n:=by
 induction a with
 |nil=>rfl
 |cons f r b=>by_cases h:f.name=n<;>simp[lO,dA.del,bY.nm,h,<-b]
def Du(a:List bY)(f:bY):(kM a f).map bY.nm=dA.put (a.map bY.nm) f.name (ly (some f.lM)):=by
 induction a with
 |nil=>rfl
 |cons g r b=>by_cases h:g.name=f.name<;>simp[kM,dA.put,bY.nm,h,<-b]
def iy{a:List bY}{n:aa}{f:bY}(h:kI a n=some f):f.name=n/\f∈a/\dA.get (a.map bY.nm) n=some (ly (some f.lM)):=by
 induction a with
 |nil=>cases h
 |cons j r g=>
  by_cases e:j.name=n
  ·simp[kI,e]at h;subst h;exact⟨e,by simp,by simp[dA.get,bY.nm,e]⟩
  ·simp[kI,e]at h;obtain⟨b,c,d⟩:=g h;exact⟨b,by simp[c],by simpa[dA.get,bY.nm,e]using d⟩
def wh{a:List bY}{n:aa}(h:kI a n=none):dA.get (a.map bY.nm) n=none:=by
 induction a with
 |nil=>rfl
 |cons g r b=>
  by_cases e:g.name=n
  ·simp[kI,e]at h
  ·simp[kI,e]at h;simpa[dA.get,bY.nm,e]using b h
def mw(a:List bY)(n:aa):(lO a n).Sublist a:=by
 induction a with
 |nil=>exact dJ _
 |cons f r b=>
  by_cases h:f.name=n
  ·simp[lO,h]
  ·simpa[lO,h]using b
def zF{a:List bY}{n:aa}{f:bY}(i:a.Pairwise jQ)(h:kI a n=some f):∀g∈lO a n,jQ f g:=by
 induction a with
 |nil=>cases h
 |cons g r j=>
  obtain⟨c,d⟩:=bL.1 i;by_cases e:g.name=n
  ·simp[kI,e]at h;subst h;simpa[lO,e]using c
  ·simp[kI,e]at h;intro x b;simp[lO,e]at b;rcases b with rfl|b
   ·exact(c f (iy h).2.1).symm
   ·exact j d h x b
def vf{a:List bY}{f x:bY}(h:x∈kM a f):x=f\/x∈lO a f.name:=by
 induction a with
 |nil=>left;simpa[kM]using h
 |cons g r b=>
  by_cases e:g.name=f.name
  ·simp[kM,e]at h;simpa[lO,e]using h
  ·simp[kM,e]at h;simp[lO,e];rcases h with rfl|h
   ·exact .inr (.inl rfl)
   ·rcases b h with h|h
    ·exact .inl h
    ·exact .inr (.inr h)
def yO{b:List bY}{f:bY}(c:(lO b f.name).Pairwise jQ)(h:∀g∈lO b f.name,jQ f g):(kM b f).Pairwise jQ:=by
 induction b with
 |nil=>simp[kM]
 |cons g r j=>
  by_cases e:g.name=f.name
  ·simp only[lO,e,iY]at c h;simp only[kM,e,iY];exact bL.2 ⟨h,c⟩
  ·simp only[lO,e,ji]at c h;simp only[kM,e,ji];obtain⟨d,i⟩:=bL.1 c;refine bL.2 ⟨λx a=>?_,j i (λx a=>h x (by simp[a]))⟩;rcases vf a with rfl|a
   ·exact(h g (by simp)).symm
   ·exact d x a
def JP{b:List bY}{f:bY}{n:aa}(a:f.name≠n):lO (kM b f) n=kM (lO b n) f:=by
 induction b with
 |nil=>simp[lO,kM,a]
 |cons g r d=>
  by_cases e:g.name=f.name
  ·have:g.name≠n:=by rw[e];exact a
   simp[lO,kM,e,a]
  ·by_cases c:g.name=n
   ·have:¬n=f.name:=λh=>a h.symm;simp[lO,kM,c,this]
   ·simp[lO,kM,e,c,d]
def Ph{c:List bY}{f:bY}{n:aa}:kI (kM c f) n=if f.name=n then some f else kI c n:=by
 induction c with
 |nil=>simp[kI,kM]
 |cons g r d=>
  by_cases e:g.name=f.name
  ·by_cases a:f.name=n
   ·simp[kI,kM,e,a]
   ·simp[kI,kM,e,a]
  ·by_cases a:g.name=n
   ·have:f.name≠n:=λh=>e (a.trans h.symm);have b:¬n=f.name:=λh=>this h.symm;simp[kI,kM,a,this,b]
   ·simp[kI,kM,e,a,d]
def AZ{w W o:J}{c:Nat}{K:DK}{e b:M}{x:List Mv}{d:List bY}(y:bR w c K)(k:∀S,I S w W)(j:zT W o c K.nb K.sb K.mv 1099511627776 K.reads K.iB (d.map bY.nm) (K.cY.length+1) (K.cY.map (·.1)++[e]) b)(u:pz W (e,x))(t:∀v,e.ownBlock=some v->w.heap.size<=v)(m:∀f∈d,∃g∈K.files,f.lM=g.lM/\f.data=g.data/\f.bytes=g.bytes/\f.safe=g.safe)(s:d.Pairwise jQ):nJ w o c K {K with mv:=b,files:=d,cY:=K.cY++[(e,x)]}:=by
 have n:bR W c K:=y.ay (k (λ_=>False)) (λ_ _=>id);refine⟨n.named j u (λf a=>?_) s,?_,?_⟩
 ·obtain⟨g,l,h,i,q,r⟩:=m f a;have:=n.files g l;unfold tw at*;rw[h,i,q,r];exact this
 ·exact(k _).trans j.ay (by
   rintro q(rfl|rfl|p)
   ·exact .inl (.inl rfl)
   ·exact .inl (.inr (.inl rfl))
   ·exact .inl (.inr (.inr (.inr (.inl p)))))
 ·refine j.aS (k (λ_=>False)).size t (λf a v p=>.inl ?_);obtain⟨g,l,h,i,_⟩:=m f a;exact .inr (.inr (.inr (.inr (.inr ⟨g,l,by rw[<-h,<-i];exact p⟩))))
def FE(b:Nat)(K:DK)(a:aa)(F:bY)(w:J)(k:bR w b K)(n:kI K.files a=some F)(s:K.cY.length<=1000000000000):Calls prog 131 #[.pointer (some ⟨b,0,none⟩),.string a] w λg h=>g=.returned .nilIface/\∃c,nJ w h b K c/\c.files=lO K.files a/\c.cY.length=K.cY.length+1:=by
 have p:=Z (qS b K.nb K.sb K.mv 1099511627776 K.reads K.iB _ a ⟨F.lM,0,none⟩ w k.fN k.now (iy n).2.2);have f:Calls prog 167 #[.pointer (some ⟨b,0,none⟩),.slice (some ⟨w.heap.size,0,none⟩) 1 1] (w.alloc (.cells #[.string a,.pointer none] 281)) λg h=>g=.returned (.tuple #[])/\∃c,nJ w h b K c/\c.files=lO K.files a/\c.cY.length=K.cY.length+1:=by
  have d:(w.alloc (.cells #[.string a,.pointer none] 281)).heap[w.heap.size]?=some (.cells #[.string a,.pointer none] 281 (0,0)):=ew _ _;have m:∀S,I S w (w.alloc (.cells #[.string a,.pointer none] 281)):=λS=>(I.refl S w).alloc _;generalize w.alloc (.cells #[.string a,.pointer none] 281)=W at*;have j:bR W b K:=k.ay (m (λ_=>False)) (λ_ _=>id);have e:pz W (.slice (some ⟨w.heap.size,0,none⟩) 1 1,[(a,none)]):=by
   refine⟨show Row _ _ _ _ _ from⟨rfl,.inr ⟨w.heap.size,0,1,rfl,ai _,λx y r=>?_⟩⟩,by simp,λv g=>?_⟩
   ·rw[cw,aj d];simpa[kY,rH,ly]using r
   ·cases g;exact⟨_,_,d⟩
  refine(zc b K.nb K.sb K.mv _ 1099511627776 K.reads K.iB (K.files.map bY.nm) [(a,none)] K.cY.length (K.cY.map (·.1)) W j.fN j.now e.1 (by simp) j.steps s).mono ?_;rintro g h⟨rfl,t,i⟩;rw[zd]at i;simp only[DH,<-Ey]at i;exact⟨rfl,_,AZ k m i e (λv g=>by cases g;exact ai _) (λf a=>⟨f,(mw _ _).subset a,rfl,rfl,rfl,rfl⟩) (k.apart.sublist (mw _ _)),rfl,by simp⟩
 have q:=Z f;clear f k n;go_enter func131,ntmps131
 go_wp2_with(first
  |(go_at_call 117;refine(Y p).mono ?_;rintro g u⟨rfl,rfl⟩)
  |(go_at_call 167;refine ue (Y q) ?_;rintro g u⟨rfl,l⟩;have o:=Z l;clear l))
 go_ret;exact⟨rfl,Y o⟩
def FD(c:Nat)(K:DK)(a b:aa)(F:bY)(w:J)(m:bR w c K)(k:kI K.files a=some F)(e:a≠b)(z:K.cY.length<=1000000000000):Calls prog 204 #[.pointer (some ⟨c,0,none⟩),.string a,.string b] w λg l=>g=.returned .nilIface/\∃d,nJ w l c K d/\d.files=kM (lO K.files a) {F with name:=b}/\d.cY.length=K.cY.length+1:=by
 have v:=Z (qS c K.nb K.sb K.mv 1099511627776 K.reads K.iB _ a ⟨F.lM,0,none⟩ w m.fN m.now (iy k).2.2);have j:Calls prog 167 #[.pointer (some ⟨c,0,none⟩),.slice (some ⟨w.heap.size,0,none⟩) 2 2] (w.alloc (.cells #[.string b,.pointer (some ⟨F.lM,0,none⟩),.string a,.pointer none] 281)) λg l=>g=.returned (.tuple #[])/\∃d,nJ w l c K d/\d.files=kM (lO K.files a) {F with name:=b}/\d.cY.length=K.cY.length+1:=by
  have h:(w.alloc (.cells #[.string b,.pointer (some ⟨F.lM,0,none⟩),.string a,.pointer none] 281)).heap[w.heap.size]?=some (.cells #[.string b,.pointer (some ⟨F.lM,0,none⟩),.string a,.pointer none] 281 (0,0)):=ew _ _;have s:∀S,I S w (w.alloc (.cells #[.string b,.pointer (some ⟨F.lM,0,none⟩),.string a,.pointer none] 281)):=λS=>(I.refl S w).alloc _;generalize w.alloc (.cells #[.string b,.pointer (some ⟨F.lM,0,none⟩),.string a,.pointer none] 281)=W at*;have p:bR W c K:=m.ay (s (λ_=>False)) (λ_ _=>id);have i:pz W (.slice (some ⟨w.heap.size,0,none⟩) 2 2,[(b,some F.lM),(a,none)]):=by
   refine⟨show Row _ _ _ _ _ from⟨rfl,.inr ⟨w.heap.size,0,2,rfl,ai _,λC E o=>?_⟩⟩,by simp,λD g=>?_⟩
   ·rw[cw,aj h];simpa[kY,rH,ly]using o
   ·cases g;exact⟨_,_,h⟩
  refine(zc c K.nb K.sb K.mv _ 1099511627776 K.reads K.iB (K.files.map bY.nm) [(b,some F.lM),(a,none)] K.cY.length (K.cY.map (·.1)) W p.fN p.now i.1 (by simp) p.steps z).mono ?_;rintro g l⟨rfl,A,r⟩;have y:nN (K.files.map bY.nm) [(b,some F.lM),(a,none)]=(kM (lO K.files a) {F with name:=b}).map bY.nm:=by
   rw[<-JP (f:={F with name:=b}) (λg=>e g.symm),Ey,Du];rfl
  rw[y]at r;refine⟨rfl,_,AZ m s r i (λD g=>by cases g;exact ai _) (λf n=>?_) ?_,rfl,by simp⟩
  ·rcases vf n with rfl|n
   ·exact⟨F,(iy k).2.1,rfl,rfl,rfl,rfl⟩
   ·exact⟨f,(mw _ _).subset ((mw _ _).subset n),rfl,rfl,rfl,rfl⟩
  ·refine yO ((m.apart.sublist (mw _ _)).sublist (mw _ _)) (λC o=>?_);have:=zF m.apart k C ((mw _ _).subset o);exact this
 have t:(!a.toList==b.toList)=true:=by simp[ut e]
 have x:=Z j;clear j m k e;go_enter func204,ntmps204
 go_wp2_with(first
  |(go_at_call 117;refine(Y v).mono ?_;rintro g B⟨rfl,rfl⟩)
  |(go_at_call 167;refine ue (Y x) ?_;rintro g B⟨rfl,q⟩;have u:=Z q;clear q))
 go_ret;exact⟨rfl,Y u⟩
def bR.Da{w:J}{b:Nat}{K:DK}(h:bR w b K){k:Nat}(e:K.mv.ownBlock=some k):k≠K.sb/\k≠K.nb/\k≠b:=by
 obtain⟨c,a⟩:=dS h.steps e;exact⟨h.safe.tag a,h.now.tag a,fj a h.fN (by decide)⟩
def bR.Ow{w b:J}{a:Nat}{K:DK}{D:dA}(h:bR w a K)(g:I (λk=>k=K.sb) w b)(m:eC b K.sb D):nJ w (b.setCell ⟨a,2,none⟩ (.slice none 0 0)) a K {K with mv:=.slice none 0 0,cY:=[],sm:=D}:=by
 have c:a≠K.sb:=h.safe.tag h.fN;have j:kR b a K.nb K.sb K.mv 1099511627776 K.reads K.iB:=(g.block a (ak h.fN) c).trans h.fN;have d:I (λk=>k=a\/k=K.sb) w (b.setCell ⟨a,2,none⟩ (.slice none 0 0)):=(g.mono (λx e=>.inl (.inr e))).setCell a 2 _ (.inl (.inl rfl));refine⟨⟨?_,?_,?_,h.ne,bC _ _ _ _,by simp,?_,h.apart⟩,?_,?_⟩
 ·unfold kR;rw[aL j];rfl
 ·refine h.now.ay d ?_;rintro(e|e)
  ·exact h.now.tag h.fN e.symm
  ·exact h.ne e
 ·exact m.kept (co b a 2 _) (by simp;exactλe=>c e.symm)
 ·intro n l;have hF:=h.files n l;refine hF.ay d ?_ ?_
  ·rintro(e|e)
   ·exact fj hF.1 h.fN (by decide) e
   ·exact h.safe.tag hF.1 e
  ·intro k e;obtain⟨i,f⟩:=dS hF.2.1 e;rintro(e|e)
   ·exact fj f h.fN (by decide) e
   ·exact h.safe.tag f e
 ·exact d.mono (by
   rintro x(rfl|rfl)
   ·exact .inl (.inl rfl)
   ·exact .inl (.inr (.inr (.inl rfl))))
 ·rintro k(e|e|e|e|⟨x,f,_⟩|e)
  ·exact .inl (.inl e)
  ·exact .inl (.inr (.inl e))
  ·exact .inl (.inr (.inr (.inl e)))
  ·cases e
  ·cases f
  ·exact .inl (.inr (.inr (.inr (.inr (.inr e)))))
def wQ(j:Nat)(K:DK)(x:J)(r:bR x j K)(hn:K.cY.length<=1000000000000):Calls prog 76 #[.pointer (some ⟨j,0,none⟩)] x λy q=>y=.returned .nilIface/\∃B,nJ x q j K B/\B.files=K.files/\B.cY=[]:=by
 have H:=Z (tM j K.nb K.sb K.mv 1099511627776 K.reads K.iB x r.fN);have E:j≠K.sb:=r.safe.tag r.fN;have g:∀wr,I (λk=>k=K.sb) x wr->wr.cell? ⟨j,1,none⟩=some (.map (some K.sb))/\wr.cell? ⟨j,2,none⟩=some K.mv/\wr.frozen? ⟨j,2,none⟩=false:=by
  intro wr c;have f:kR wr j K.nb K.sb K.mv 1099511627776 K.reads K.iB:=(c.block j (ak r.fN) E).trans r.fN;exact⟨by rw[aj f];rfl,by rw[aj f];rfl,cG f⟩
 have s:=Z g;have W:=(g x (I.refl _ _)).2.1;have l:=Z (λ(q:J)(D:dA)(c:I (λk=>k=K.sb) x q)(m:eC q K.sb D)=>r.Ow c m);have h:∀(wr:J)(n:Nat)(b:n<K.cY.length)(D:dA),I (λk=>k=K.sb) x wr->eC wr K.sb D->Calls prog 120 #[.map (some K.sb),K.cY[n].1] wr λy q=>y=.returned (.tuple #[])/\eC q K.sb (nN D K.cY[n].2)/\wr.grownBy q (some K.sb):=by
  intro wr n b D c m;have f:=(r.each K.cY[n] (au b)).ay c (λk y u=>by
   obtain⟨C,w,o⟩:=(r.each K.cY[n] (au b)).2.2 k y;exact r.safe.tag o u)
  exact AO K.sb D K.cY[n].2 K.cY[n].1 wr m f.1 (by have:=f.2.1;omega)
 have e:=Z h;have a:=Z r.steps;have d:=Z r.safe;have t:=Z (λk=>r.Da (k:=k));clear g h r;generalize ac:K.mv=mv at*;rcases(Y a).2 with⟨rfl,U⟩|⟨an,R,C,rfl,_,O,al,_,g,p⟩
 ·have f:K.cY=[]:=aG U;clear e a t;go_enter func76,ntmps76
  go_wp2_with(first
   |(go_at_call 119;refine(Y H).mono ?_;rintro y G⟨rfl,hw⟩;subst G))
  go_loopw [15] (λi wr=>i=.int .i64 0/\wr=x) (λ_ _=>0)
  case atStart=>exact⟨rfl,rfl⟩
  case round=>
   obtain⟨rfl,rfl⟩:=hrel;have F:=((Y s) wr (I.refl _ _)).2.2;go_wp2;go_ret;exact⟨rfl,_,(Y l) wr K.sm (I.refl _ _) (Y d),rfl,rfl⟩
 ·have f:∀n(b:n<K.cY.length)wr,I (λk=>k=K.sb) x wr->wr.cell? ⟨an,n,none⟩=some K.cY[n].1:=by
   intro n b wr c;refine c.cell ?_ ((Y t) an rfl).1 (ak O);have:=World.ownsRow.cellAt (Y a) n (by omega);rw[this];simp[b]
  have o:=Z f;clear f g p O a;go_enter func76,ntmps76
  go_wp2_with(first
   |(go_at_call 119;refine(Y H).mono ?_;rintro y G⟨rfl,hw⟩;subst G))
  go_loopw [15] (λi wr=>∃n:Nat,n<=K.cY.length/\i=.int .i64 n/\I (λk=>k=K.sb) x wr/\∃D,eC wr K.sb D) (λi _=>K.cY.length-(intOf i).toNat)
  case atStart=>exact⟨0,aU _,rfl,I.refl _ _,K.sm,Y d⟩
  case round=>
   obtain⟨n,ad,rfl,c,D,m⟩:=hrel;obtain⟨V,N,F⟩:=(Y s) wr c;have L:=Z c;have P:=Z m;by_cases b:n<K.cY.length
   ·have X:=(Y o) n b wr c;have Q:=Z ((Y e) wr n b D c m);clear c m;go_wp2_with(first
     |(go_at_call 120;refine(Y Q).mono ?_;rintro y w2⟨rfl,w,u⟩;have A:=Z w;have z:=Z u;clear w u))
    go_roundw;case rel=>exact⟨n+1,by omega,by go_num,(Y L).trans (I.bz (S:=λk=>k=K.sb) (Y z) (by rintro k⟨⟩;exact .inl rfl)) (λx y=>.inl y),_,Y A⟩
    case measure=>simp[intOf];omega
   ·clear c m;have u:n=K.cY.length:=by omega
    subst u;go_wp2;go_ret;exact⟨rfl,_,(Y l) wr D (Y L) (Y P),rfl,rfl⟩
def La{m:dA}{k:aa}{v:M}(h:dA.get m k=some v):dA.put m k v=m:=by
 induction m with
 |nil=>cases h
 |cons p r a=>
  by_cases e:p.1=k
  ·simp[dA.get,e]at h;simp[dA.put,e,<-h];rw[<-e]
  ·simp[dA.get,e]at h;simp[dA.put,e,a h]
def bR.Qt{w p:J}{q:Nat}{K:DK}{F F':bY}(l:bR w q K)(y:kI K.files F'.name=some F)(u:F'.lM=F.lM)(n:I (λk=>k=F.lM\/F.data.ownBlock=some k) w p)(hF:tw p F')(z:∀k,F'.data.ownBlock=some k->F.data.ownBlock=some k\/w.heap.size<=k):nJ w p q K {K with files:=kM K.files F'}:=by
 obtain⟨_,a,o⟩:=iy y;have c:=l.files F a;have d:∀{k A:Nat}{t:Array M}{r:Nat×Nat},w.heap[k]?=some (.cells t A r)->A≠122->A≠5->¬(k=F.lM\/F.data.ownBlock=some k):=by
  rintro k A t r v B C(e|e)
  ·exact fj v c.1 B e
  ·obtain⟨f,g⟩:=dS c.2.1 e;exact fj v g C rfl
 have b:∀{v:Nat}{A:dA},eC w v A->¬(v=F.lM\/F.data.ownBlock=some v):=by
  rintro v A t(e|e)
  ·exact t.tag c.1 e.symm
  ·obtain⟨f,g⟩:=dS c.2.1 e;exact t.tag g rfl
 have i:∀s∈lO K.files F'.name,s∈K.files:=λs h=>(mw _ _).subset h;have j:=zF l.apart y;refine⟨⟨?_,?_,l.safe.ay n (b l.safe),l.ne,?_,?_,?_,?_⟩,?_,?_⟩
 ·exact(n.block q (ak l.fN) (d l.fN (by decide) (by decide))).trans l.fN
 ·show eC p K.nb ((kM K.files F').map bY.nm);rw[Du,u,La o];exact l.now.ay n (b l.now)
 ·refine n.own l.steps (λk e=>?_);obtain⟨f,g⟩:=dS l.steps e;exact d g (by decide) (by decide)
 ·intro x m;refine(l.each x m).ay n (λk e=>?_);obtain⟨f,r,g⟩:=(l.each x m).2.2 k e;exact d g (by decide) (by decide)
 ·intro x m;rcases vf m with rfl|m
  ·exact hF
  ·have t:=l.files x (i x m);refine t.ay n ?_ ?_
   ·rintro(e|e)
    ·exact(j x m).1 e.symm
    ·obtain⟨f,g⟩:=dS c.2.1 e;exact fj t.1 g (by decide) rfl
   ·intro k v;rintro(e|e)
    ·obtain⟨f,g⟩:=dS t.2.1 v;exact fj g c.1 (by decide) e
    ·exact(j x m).2 k e v
 ·refine yO (l.apart.sublist (mw _ _)) (λs h=>⟨by rw[u];exact(j s h).1,λk e t=>?_⟩);rcases z k e with v|v
  ·exact(j s h).2 k v t
  ·have:=(aK (l.files s (i s h)).2.1 k t).2;omega
 ·exact n.mono (by
   rintro x(rfl|e)
   ·exact .inl (.inr (.inr (.inr (.inr (.inr ⟨F,a,.inl rfl⟩)))))
   ·exact .inl (.inr (.inr (.inr (.inr (.inr ⟨F,a,.inr e⟩))))))
 ·rintro k(e|e|e|e|e|⟨v,t,e⟩)
  ·exact .inl (.inl e)
  ·exact .inl (.inr (.inl e))
  ·exact .inl (.inr (.inr (.inl e)))
  ·exact .inl (.inr (.inr (.inr (.inl e))))
  ·exact .inl (.inr (.inr (.inr (.inr (.inl e)))))
  ·rcases vf t with rfl|t
   ·rcases e with e|e
    ·exact .inl (.inr (.inr (.inr (.inr (.inr ⟨F,a,.inl (u.symm.trans e)⟩)))))
    ·rcases z k e with e|e
     ·exact .inl (.inr (.inr (.inr (.inr (.inr ⟨F,a,.inr e⟩)))))
     ·exact .inr e
   ·exact .inl (.inr (.inr (.inr (.inr (.inr ⟨v,i v t,e⟩)))))
def GU(e:Nat)(K:DK)(a:aa)(F:bY)(w:J)(l:bR w e K)(h:kI K.files a=some F)(m:F.bytes.length<=140737488351232):Calls prog 74 #[.pointer (some ⟨e,0,none⟩),.string a] w λk j=>k=.returned .nilIface/\∃f,nJ w j e K f/\f.files=kM K.files {F with safe:=F.bytes.length}/\f.cY=K.cY:=by
 obtain⟨g,c,b⟩:=iy h;have hF:=l.files F c;have d:F.data.ownBlock≠some F.lM:=um hF.2.1 hF.1 (by decide);refine(Kz e K.nb K.sb K.mv 1099511627776 K.reads K.iB _ a F.lM F.bytes F.safe w l.fN l.now b ⟨F.data,hF.1,dq.bytes hF.2.1,d⟩ m).mono ?_;rintro k j⟨rfl,_,rfl⟩;refine⟨rfl,_,l.Qt (F:=F) (F':={F with safe:=F.bytes.length}) (by rw[show({F with safe:=F.bytes.length}:bY).name=F.name from rfl,g];exact h) rfl ((I.refl _ w).setCell F.lM 1 _ (.inl (.inl rfl))) ⟨?_,?_,hF.2.2⟩ (λn k=>.inl k),rfl,rfl⟩
 ·show(w.setCell ⟨F.lM,1,none⟩ (.int .i64 F.bytes.length)).heap[F.lM]?=_;rw[aL hF.1];rfl
 ·exact World.ownsRow.kept hF.2.1 (co w F.lM 1 _) (.inr d)
def Nc(d:Nat)(K:DK)(a:aa)(F:bY)(w:J)(h:bR w d K)(e:kI K.files a=some F)(g:F.bytes.length<=140737488351232):Calls prog 126 #[.pointer (some ⟨d,0,none⟩),.string a] w λj i=>j=.returned (.tuple #[.int .i64 F.bytes.length,.nilIface])/\i=w:=by
 obtain⟨f,c,b⟩:=iy e;have hF:=h.files F c;exact KE d K.nb K.sb K.mv 1099511627776 K.reads K.iB _ a F.lM F.bytes F.safe w h.fN h.now b ⟨F.data,hF.1,dq.bytes hF.2.1,um hF.2.1 hF.1 (by decide)⟩ g
def qe(a:List bY):Nat:=(a.map (·.bytes.length)).sum
def lf.left_eq{w:J}{g r:Nat}{m left:dA}(k:lf w g r m left):w.rangeLeft g r=left.length:=by
 obtain⟨j,a,b,seen,h,c,_,_,d,_,_,_,e⟩:=k;simp only[World.rangeLeft,c,d];have:=bB List.length e;simpa using this
def yZ{L:List bY}{b a:dA}{p:aa×M}(h:L.map bY.nm=b++p::a):∃A f C,L=A++f::C/\b=A.map bY.nm/\p=f.nm/\a=C.map bY.nm:=by
 obtain⟨A,D,rfl,c,d⟩:=iI.1 h;obtain⟨f,C,rfl,e,g⟩:=List.map_eq_cons_iff.1 d;exact⟨A,f,C,rfl,c.symm,e.symm,g.symm⟩
def dq.shape{w:J}{base:Nat}{v:M}{a:List Int}(h:dq w base v a):∃x c,v=.slice x a.length c:=aC h
def Bl(n:Nat)(K:DK)(l:aa)(F:bY)(bo q A:Nat)(e:List Int)(w:J)(B:bR w n K)(G:kI K.files l=some F)(bc:qe K.files+e.length<=1099511627776)(ax:iq e)(D:∀bi ac,(e.map (Value.int .u8))[bi]?=some ac->w.cell? ⟨bo,q+bi,none⟩=some ac)(C:bo<w.heap.size)(bp:F.bytes.length<=1099511627776):Calls prog 112 #[.pointer (some ⟨n,0,none⟩),.string l,.slice (some ⟨bo,q,none⟩) e.length A] w λr w'=>r=.returned .nilIface/\∃m,nJ w w' n K m/\(∃bk,m.files=kM K.files {F with data:=bk,bytes:=F.bytes++e})/\m.cY=K.cY:=by
 obtain⟨i0,hi,bf,bg,bh⟩:=bK mr;obtain⟨bb,O,L⟩:=iy G;subst bb;have HF:=Z (qS n K.nb K.sb K.mv 1099511627776 K.reads K.iB _ F.name ⟨F.lM,0,none⟩ w B.fN B.now L);have bq:w.cell? ⟨n,0,none⟩=some (.map (some K.nb)):=by rw[aj B.fN];rfl
 have HD:=Z (λ(wr:J)(s:I (λ_=>False) w wr)=>B.ay s (λ_ _=>id));have y:=Z B.now;have HB:=Z (λ(wr:J)(s:I (λ_=>False) w wr)bi ac(hj:(e.map (Value.int .u8))[bi]?=some ac)=>s.cell (D bi ac hj) id C);clear B D;go_enter func112,ntmps112
 go_wp2_with(first
  |(go_at_call 117;refine(Y HF).mono ?_;rintro r W⟨rfl,hw⟩;subst W)
  |(at_range;refine qa _ rfl _ 70 rfl 9 118 underlying70 K.nb _ rfl (Y y) ?_;intro w0 j H bx;have an:=Z j;have x:=Z H;clear j H))
 go_frame
 go_loopw [9] (λac wr=>∃(bl:List bY)(a:Nat),(∀X∈bl,X∈K.files)/\ac=.int .i64 a/\a+qe bl=qe K.files/\lf wr K.nb w.heap.size (K.files.map bY.nm) (bl.map bY.nm)/\I (λ_=>False) w wr) (λ_ wr=>wr.rangeLeft K.nb w.heap.size)
 case atStart=>exact⟨K.files,0,λ_ B=>B,rfl,by simp,Y an,I.bz (Y x) (by simp)⟩
 case round=>
  obtain⟨bl,a,hL,rfl,U,N,s⟩:=hrel;have u:=Z N;have z:=Z s;have HL:=Z hL;clear N s hL;go_wp2_with(first
   |(at_next;refine rm _ rfl _ rfl K.nb w.heap.size _ _ rfl (Y u) ?_ ?_))
  ·intro ba;obtain rfl:bl=[]:=by simpa using ba
   have bd:a=qe K.files:=by simpa[qe]using U
   have f:=(Y HD) wr (Y z);have hF:=f.files F O;have br:wr.cell? ⟨n,3,none⟩=some (.int .i64 1099511627776):=by rw[aj f.fN];rfl
   have E:wr.cell? ⟨F.lM,0,none⟩=some F.data:=by rw[aj hF.1];rfl
   have P:F.data.ownBlock≠some F.lM:=um hF.2.1 hF.1 (by decide);have c:∀g h,h.ownsRow 0 5 1 g (F.bytes.length+e.length) (F.bytes.map (Value.int .u8)++e.map (Value.int .u8))->du wr h F.data g->h.cell? ⟨F.lM,0,none⟩=some F.data/\h.frozen? ⟨F.lM,0,none⟩=false/\∃m,nJ w (h.setCell ⟨F.lM,0,none⟩ g) n K m/\(∃bk,m.files=kM K.files {F with data:=bk,bytes:=F.bytes++e})/\m.cY=K.cY:=by
    intro g h R p;have b:h.heap[F.lM]?=some (.cells #[F.data,.int .i64 F.safe] 122 (0,0)):=(p.grown.block F.lM (ak hF.1) (λr=>P r.symm)).trans hF.1;have Q:g.ownBlock≠some F.lM:=um R b (by decide);refine⟨by rw[aj b];rfl,cG b,_,((Y HD) w (I.refl _ _)).Qt (F:=F) (F':={F with data:=g,bytes:=F.bytes++e}) G rfl ?_ ⟨?_,?_,hF.2.2.append ax⟩ ?_,⟨g,rfl⟩,rfl⟩
    ·exact(((Y z).mono (T:=λV=>V=F.lM\/F.data.ownBlock=some V) (λ_ r=>r.elim)).trans (I.bz (S:=λV=>F.data.ownBlock=some V) p.grown (λV r=>.inl r)) (λbk r=>.inl (.inr r))).setCell F.lM 0 g (.inl (.inl rfl))
    ·show(h.setCell ⟨F.lM,0,none⟩ g).heap[F.lM]?=_;rw[aL b];rfl
    ·exact dq.of (World.ownsRow.kept R (co h F.lM 0 g) (.inr Q)) (by simp) (by simp)
    ·intro V r;rcases p.sr with e'|⟨ao,e',bv⟩
     ·exact .inl (e'.symm.trans r)
     ·have:ao=V:=by
       have e2:g.ownBlock=some V:=r;rw[e']at e2;simpa using e2
      exact .inr (by have:=(Y z).size;omega)
   have t:=Z c;have HO:=Z hF.2.1;obtain⟨bk,bT,o⟩:=dq.shape hF.2.1;have bn:¬((1099511627776-a:Int)<e.length):=by omega
   clear c f hF P;generalize F.data=fd at*;subst o;have ad:=Z ((Y HB) wr (Y z));go_wp2_with(first
    |(at_builtin;go_loud(refine aX _ rfl (.tmp 54) (.tmp 55) 119 rfl 0 5 i0 (.int .u8 0) 1 1 underlying119 hi bf bg bh rfl (by decide) _ F.bytes.length (F.bytes.map (Value.int .u8)) rfl (Y HO) ⟨bo,q,none⟩ e.length A (e.map (Value.int .u8)) rfl (by simp) (λbi ac hj=>by rw[ct];exact(Y ad) bi ac hj) (by intro ac hu;simp only[aZ]at hu;obtain⟨ca,_,rfl⟩:=hu;rfl) (by omega) (by omega) (aU _) ?_;intro v2 h d k;obtain⟨bs,bt,c⟩:=(Y t) v2 h d k;obtain⟨x2,c2,rfl⟩:=aC d;have al:=Z c;clear d k c)))
   go_ret;exact⟨rfl,Y al⟩
  ·intro bn pk pv R W h b g P ba;obtain⟨ad,X,al,rfl,rfl,Q,rfl⟩:=yZ h;simp only[bY.nm,ly,eY]at Q;obtain⟨rfl,rfl⟩:=Q;have t:X∈K.files:=(Y HL) X (by simp);have c:I (λ_=>False) w W:=(Y z).trans (I.bz (S:=λV=>V=w.heap.size) g (by rintro V⟨⟩;exact .inl rfl)) (by rintro bk rfl;exact .inr (ai _));have f:=(Y HD) W c;have hF:=f.files X t;have E:W.cell? ⟨X.lM,0,none⟩=some X.data:=by rw[aj hF.1];rfl
   obtain⟨bk,bT,o⟩:=dq.shape hF.2.1;rw[o]at E;have bd:qe (ad++X::al)=qe (ad++al)+X.bytes.length:=by simp[qe];omega
   have k:=Z (show(λao=>ao∈K.files)=(λao=>ao∈K.files)from rfl);have d:=Z b;have p:=Z c;clear h b g P f hF c k;go_wp2;go_roundw;case rel=>exact⟨ad++al,a+X.bytes.length,λao G=>(Y HL) ao (by simp at G|-;rcases G with B|B<;>simp[B]),by go_num,by omega,by simpa using Y d,Y p⟩
   case measure=>rw[(Y d).left_eq,(Y u).left_eq];simp
def Bytes.cells{w:J}{b d h:Nat}{bs:List Int}(C:Bytes w (.slice (some ⟨b,d,none⟩) bs.length h) bs):∀j u,(bs.map (Value.int .u8))[j]?=some u->w.cell? ⟨b,d+j,none⟩=some u:=by
 rcases C with⟨e,_⟩|⟨b',z,r,e,_,A⟩
 ·cases e
 ·cases e;intro j u s;rw[cP]at s;obtain⟨x,y,rfl⟩:=lU.1 s;have o:j<bs.length:=(gV.1 y).1;rw[A j o,y];rfl
def Be(v:M)(bs:List Int)(w:J)(z:Bytes w v bs)(L:bs.length<=1099511627776)(e:∀q,v.ownBlock=some q->q<w.heap.size):Calls prog 50 #[v] w λK t=>∃s,K=.returned s/\dq t w.heap.size s bs/\Below w.heap.size w t:=by
 obtain⟨G,D,l,m,o⟩:=bK mr;rcases z.shape with⟨rfl,rfl⟩|⟨y,p,k,rfl,F⟩
 ·have C:∀w:J,(binOp .eql 119 (.slice none 0 0) (.slice none 0 0)).run prog w=.ok (.bool true) w:=λ_=>rfl;go_enter func50,ntmps50
  go_wp2;go_ret;exact⟨_,rfl,dq.nil _ _,Below.refl _ _⟩
 ·have A:y<w.heap.size:=e y rfl;have u:=Z z.cells;have g:(w.alloc (.cells #[] 5)).ownsRow w.heap.size 5 1 (.slice (some ⟨w.heap.size,0,none⟩) 0 0) 0 []:=World.ownsRow_lit w #[] 0 (ai _) (by decide) rfl;have x:=Z g;have C:∀(w:J)a n c,(binOp .eql 119 (.slice (some a) n c) (.slice none 0 0)).run prog w=.ok (.bool false) w:=λ_ _ _ _=>rfl;clear z e g;go_enter func50,ntmps50
  go_wp2_with(first
   |(at_builtin;refine aX _ rfl (.tmp 5) (.tmp 6) 119 rfl w.heap.size 5 G (.int .u8 0) 1 1 underlying119 D l m o rfl (by decide) _ 0 [] rfl (Y x) ⟨y,p,none⟩ bs.length k (bs.map (Value.int .u8)) rfl (by simp) (λN H E=>by rw[ct,dE A];exact(Y u) N H E) (by intro H r;simp only[aZ]at r;obtain⟨Q,_,rfl⟩:=r;rfl) (by omega) (by omega) (by simp) ?_;intro O P b d;have h:=Z b;have j:=Z d;clear b d))
  go_ret;refine⟨_,rfl,dq.of (Y h) (by simp) (by simp),?_⟩;have:=(Y j).below (B:=w.heap.size) (by simp) (by rintro q⟨⟩;exact ai _);exact⟨this.os,this.tape,this.output,aB (by simp) this.size,λq b=>(this.block q b).trans (Below.heap_alloc w _ q b)⟩
end Go.Proofs.YtophdnlmpfmeiaaGreatDoor
