import Derived.Test.YtojeeoclojldpaaGreatDoorC5
import Derived.Test.YtojeeoclojldpaaGreatDoorC6
open _root_ renaming List.length→y,Option.some→H,Array.size→z,Go.World.heap→G,Go.Value.ownBlock→bV,Nat→M,List→cr,Go.Calls→cy,Go.Proofs.Tryz.prog→bG,Go.Value.slice→J,Go.Value.string→ai
namespace Go.Proofs.YtojeeoclojldpaaGreatDoor
open ChangeShapes WideShapes RowKit Proofs.Tryz
set_option maxHeartbeats 16000000
set_option linter.all false
set_option maxRecDepth 100000
def EJ:(prog.info? 9).map (λi=>(i.zero,i.size,i.bytes))=H (H<|ai ⟨#[]⟩,1,16):=by kernel_rfl
def Gm(a:cr ab)(n:ab):strs (a++[n])=strs a++[ai n]:=by simp[strs]
def EA{db:M}{K:DK}{w:I}(h:cK w db K)(hn:y K.files<=100000000):cy bG 95 #[aA db] w λav w'=>∃v' a,av=aO v'/\List.Perm a (K.files.map da.name)/\w'.ownsRow (z<|G w) 9 1 v' (y a) (strs a)/\Y aB w w':=by
 obtain⟨i0,V,ad,al,an⟩:=cz EJ;have bc:=cellAt h.iG 0 rfl;have g:=U h.now;clear h;go_in
 go_wp2_with(first
  |(at_range;refine ui _ rfl _ 70 rfl 9 125 underlying70 K.nb _ rfl g ?_;intro w0 i A bh;have O:=U i;have u:=U A;clear i A))
 go_frame
 go_loopw [3] (λo wr=>∃(au:cr da)(a:cr ab),(a++au.map da.name).Perm (K.files.map da.name)/\wr.ownsRow (z<|G w) 9 1 o (y a) (strs a)/\bV o≠H (z<|G w)/\qt wr K.nb (z<|G w) (K.files.map da.nm) (au.map da.nm)/\Y aB w wr) (λ_ wr=>wr.rangeLeft K.nb<|z<|G w)
 case atStart=>exact⟨K.files,[],nj _,bK _ _ _ _,(by simp[bV]),O,Y.dN u<|by simp⟩
 case round=>
  obtain⟨au,a,hp,W,E,C,ht⟩:=hrel;have bg:y a<=100000000:=by have:=hp.length_eq;simp at this;omega
  obtain⟨q,p,X⟩:=aC W;obtain⟨t,HT,HP,Q,l⟩:=jP C ht hp W E;clear C ht hp W E;subst X;go_wp2_with(first
   |(at_next;refine vE _ rfl _ rfl K.nb (z (G w)) _ _ rfl t ?_ ?_))
  .intro o;obtain rfl:au=[]:=by simpa using o
   have e:=Ta a Q (by omega);go_wp2_with fail
   apply e.mono;rintro av s⟨rfl,r,c,b,f⟩;obtain⟨n,m,j⟩:=dC b f c;clear b f c e;go_wp2;go_ret;refine⟨_,r,rfl,?_,n,HT.trans m<|λk d=>.inr (Q.lt k d).1⟩;have:=ae HP;simp only[eW,dJ]at this;exact j.trans this
  .intro bi pk pv ao r N c B ac bd;obtain⟨bm,ba,bn,rfl,rfl,L,rfl⟩:=Ek N;simp only[da.nm,oM,gT]at L;obtain⟨rfl,rfl⟩:=L;have o:Y (λk=>k=z (G w)) wr r:=fg B;have F:=o.own Q (λk d T=>ae l<|by rw[d,T]);have D:=c.lt;obtain⟨P,v,m⟩:=dC c (HT.trans o<|λx a=>.inr<|by omega) F;have bb:K.nb≠z (G w):=λav=>c.ne av.symm;have bf:K.nb<z (G w):=g.lt;clear N c B ac o F;go_wp2_with(first
    |(at_builtin;go_loud(refine bS _ rfl (.tmp 14) (.tmp 16) 192 rfl (z (G w)) 9 i0 (.string ⟨#[]⟩) 1 16 underlying192 V ad al an rfl (by decide) (.slice q (y a) p) (y a) (strs a) rfl (aS m (.cells #[.string ba.name] 9)) (R (z (G r)) 0) 1 1 [.string ba.name] rfl rfl (tr _ _ _) (by simp[Value.oneCell']) (by omega) (by omega) (by have:=v.size;simp;omega) ?_;intro v2 w3 b j;obtain⟨bl,bk,rfl⟩:=aC b;have n:=U b;have x:=U j;clear b j)))
   have s:=U (show qt w3 K.nb (z<|G w) (K.files.map da.nm) (bm.map da.nm++bn.map da.nm)from by
    have f:=ae x;have e:Y (λk=>bV (J q (y a) p)=H k) r w3:=((Y.refl (λk=>bV (J q (y a) p)=H k) r).alloc _).trans (Y.dN (S:=λk=>bV (J q (y a) p)=H k) f.grown (λk d=>.inl d)) (λk d=>.inl d);refine P.kept (e.block _ (by omega) (λT=>?_)) (e.block _ D (λT=>ae l T));have:=(m.lt _ T).1;omega)
   go_roundw;case rel=>
    have f:=ae x;have e:Y (λk=>bV (J q (y a) p)=H k) r w3:=((Y.refl (λk=>bV (J q (y a) p)=H k) r).alloc _).trans (Y.dN (S:=λk=>bV (J q (y a) p)=H k) f.grown<|λk d=>.inl d)<|λk d=>.inl d;refine⟨bm++bn,a++[ba.name],?_,?_,?_,?_,?_⟩
    .refine List.Perm.trans ?_ HP;rw[aU];refine lz _ ?_;simp only[aM,aY,jM];exact kV.symm
    .rw[Gm,af];exact n
    .rcases f.uc with ax|⟨bo,ax,hg⟩
     .rw[ax];exact l
     .rw[ax];intro T;cases T;simp at hg;omega
    .rw[aM];exact s
    .exact v.trans e<|λk d=>.inr (m.lt k d).1
   case measure=>rw[(ae s).left_eq,(ae t).left_eq];simp
