import Derived.Test.YtnfehfmncheoiaaGreatDoorC5
import Derived.Test.YtnfehfmncheoiaaGreatDoorC6
open _root_ renaming List.length→y,Option.some→H,Array.size→z,Go.World.heap→G,Go.Value.ownBlock→bV,Nat→M,List→cr,Go.Calls→cw,Go.Proofs.Tryz.prog→bF,Go.Value.slice→I,Go.Value.string→J
namespace Go.Proofs.YtnfehfmncheoiaaGreatDoor
open ChangeShapes WideShapes RowKit Proofs.Tryz
set_option maxHeartbeats 16000000
set_option linter.all false
set_option maxRecDepth 100000
def EJ:(prog.info? 9).map (λi=>(i.zero,i.size,i.bytes))=H (H<|J ⟨#[]⟩,1,16):=by kernel_rfl
def Gl(a:cr ab)(n:ab):strs (a++[n])=strs a++[J n]:=by simp[strs]
def EA{db:M}{K:DK}{w:Y}(h:cJ w db K)(hn:y K.files<=100000000):cw bF 96 #[aw db] w λax w'=>∃v' a,ax=aO v'/\List.Perm a (K.files.map df.name)/\w'.ownsRow (z<|G w) 9 1 v' (y a) (strs a)/\Z az w w':=by
 obtain⟨i0,V,al,an,ao⟩:=cz EJ;have bd:=cellAt h.iH 0 rfl;have g:=U h.now;clear h;go_in
 go_wp2_with(first
  |(at_range;refine ui _ rfl _ 70 rfl 9 125 underlying70 K.nb _ rfl g ?_;intro w0 i A bi;have O:=U i;have u:=U A;clear i A))
 go_frame
 go_loopw [3] (λo wr=>∃(av:cr df)(a:cr ab),(a++av.map df.name).Perm (K.files.map df.name)/\wr.ownsRow (z<|G w) 9 1 o (y a) (strs a)/\bV o≠H (z<|G w)/\qt wr K.nb (z<|G w) (K.files.map df.nm) (av.map df.nm)/\Z az w wr) (λ_ wr=>wr.rangeLeft K.nb<|z<|G w)
 case atStart=>exact⟨K.files,[],np _,bJ _ _ _ _,(by simp[bV]),O,Z.dM u<|by simp⟩
 case round=>
  obtain⟨av,a,hp,W,E,C,ht⟩:=hrel;have bh:y a<=100000000:=by have:=hp.length_eq;simp at this;omega
  obtain⟨q,p,ac⟩:=aB W;obtain⟨t,HT,HP,Q,l⟩:=jR C ht hp W E;clear C ht hp W E;subst ac;go_wp2_with(first
   |(at_next;refine vD _ rfl _ rfl K.nb (z (G w)) _ _ rfl t ?_ ?_))
  .intro o;obtain rfl:av=[]:=by simpa using o
   have e:=Tj a Q (by omega);go_wp2_with fail
   apply e.mono;rintro ax s⟨rfl,r,c,b,f⟩;obtain⟨n,m,j⟩:=dB b f c;clear b f c e;go_wp2;go_ret;refine⟨_,r,rfl,?_,n,HT.trans m<|λk d=>.inr (Q.lt k d).1⟩;have:=ae HP;simp only[eY,dI]at this;exact j.trans this
  .intro bk pk pv au r N c B ad bf;obtain⟨bn,bb,bo,rfl,rfl,L,rfl⟩:=Ek N;simp only[df.nm,oM,gV]at L;obtain⟨rfl,rfl⟩:=L;have o:Z (λk=>k=z (G w)) wr r:=fi B;have F:=o.own Q (λk d T=>ae l<|by rw[d,T]);have D:=c.lt;obtain⟨P,v,m⟩:=dB c (HT.trans o<|λx a=>.inr<|by omega) F;have bc:K.nb≠z (G w):=λax=>c.ne ax.symm;have bg:K.nb<z (G w):=g.lt;clear N c B ad o F;go_wp2_with(first
    |(at_builtin;go_loud(refine bQ _ rfl (.tmp 14) (.tmp 16) 192 rfl (z (G w)) 9 i0 (.string ⟨#[]⟩) 1 16 underlying192 V al an ao rfl (by decide) (.slice q (y a) p) (y a) (strs a) rfl (aR m (.cells #[.string bb.name] 9)) (R (z (G r)) 0) 1 1 [.string bb.name] rfl rfl (tu _ _ _) (by simp[Value.oneCell']) (by omega) (by omega) (by have:=v.size;simp;omega) ?_;intro v2 w3 b j;obtain⟨bm,bl,rfl⟩:=aB b;have n:=U b;have x:=U j;clear b j)))
   have s:=U (show qt w3 K.nb (z<|G w) (K.files.map df.nm) (bn.map df.nm++bo.map df.nm)from by
    have f:=ae x;have e:Z (λk=>bV (I q (y a) p)=H k) r w3:=((Z.refl (λk=>bV (I q (y a) p)=H k) r).alloc _).trans (Z.dM (S:=λk=>bV (I q (y a) p)=H k) f.grown (λk d=>.inl d)) (λk d=>.inl d);refine P.kept (e.block _ (by omega) (λT=>?_)) (e.block _ D (λT=>ae l T));have:=(m.lt _ T).1;omega)
   go_roundw;case rel=>
    have f:=ae x;have e:Z (λk=>bV (I q (y a) p)=H k) r w3:=((Z.refl (λk=>bV (I q (y a) p)=H k) r).alloc _).trans (Z.dM (S:=λk=>bV (I q (y a) p)=H k) f.grown<|λk d=>.inl d)<|λk d=>.inl d;refine⟨bn++bo,a++[bb.name],?_,?_,?_,?_,?_⟩
    .refine List.Perm.trans ?_ HP;rw[aU];refine lz _ ?_;simp only[aM,aX,jO];exact kU.symm
    .rw[Gl,af];exact n
    .rcases f.uc with ba|⟨bp,ba,hg⟩
     .rw[ba];exact l
     .rw[ba];intro T;cases T;simp at hg;omega
    .rw[aM];exact s
    .exact v.trans e<|λk d=>.inr (m.lt k d).1
   case measure=>rw[(ae s).left_eq,(ae t).left_eq];simp
