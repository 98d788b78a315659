import Derived.Test.YtophdnlmpfmeiaaGreatDoorC7
import Derived.Test.YtophdnlmpfmeiaaGreatDoorC11
namespace Go.Proofs.YtophdnlmpfmeiaaGreatDoor
open ChangeShapes WideShapes RowKit Proofs.Tryz
set_option maxHeartbeats 16000000
set_option linter.all false
set_option maxRecDepth 100000
def zt:(prog.info? 9).map (λi=>(i.zero,i.size,i.bytes))=some (some (.string ⟨#[]⟩),1,16):=by kernel_rfl
def Av(a:List aa)(n:aa):strs (a++[n])=strs a++[.string n]:=by simp[strs]
def zi(U:Nat)(K:DK)(w:J)(bd:bR w U K)(hn:K.files.length<=100000000):Calls prog 79 #[.pointer (some ⟨U,0,none⟩)] w λba w'=>∃v' a,ba=.returned v'/\List.Perm a (K.files.map bY.name)/\w'.ownsRow w.heap.size 9 1 v' a.length (strs a)/\I (λ_=>False) w w':=by
 obtain⟨i0,V,ad,al,an⟩:=bK zt;have bg:w.cell? ⟨U,0,none⟩=some (.map (some K.nb)):=by rw[aj bd.fN];rfl
 have g:=Z bd.now;clear bd;go_enter func79,ntmps79
 go_wp2_with(first
  |(at_range;refine qa _ rfl _ 70 rfl 9 118 underlying70 K.nb _ rfl (Y g) ?_;intro w0 h D bl;have P:=Z h;have A:=Z D;clear h D))
 go_frame
 go_loopw [3] (λo wr=>∃(ax:List bY)(a:List aa),(a++ax.map bY.name).Perm (K.files.map bY.name)/\wr.ownsRow w.heap.size 9 1 o a.length (strs a)/\o.ownBlock≠some w.heap.size/\lf wr K.nb w.heap.size (K.files.map bY.nm) (ax.map bY.nm)/\I (λ_=>False) w wr) (λ_ wr=>wr.rangeLeft K.nb w.heap.size)
 case atStart=>exact⟨K.files,[],sF _,bC _ _ _ _,(by simp[Value.ownBlock]),Y P,I.bz (Y A) (by simp)⟩
 case round=>
  obtain⟨ax,a,hp,W,H,F,ht⟩:=hrel;have bk:a.length<=100000000:=by have:=hp.length_eq;simp at this;omega
  obtain⟨p,o,X⟩:=aC W;have z:=Z F;have HT:=Z ht;have HP:=Z hp;have R:=Z W;have q:=Z H;clear F ht hp W H;subst X;go_wp2_with(first
   |(at_next;refine rm _ rfl _ rfl K.nb w.heap.size _ _ rfl (Y z) ?_ ?_))
  ·intro t;obtain rfl:ax=[]:=by simpa using t
   have e:=KB wr w.heap.size (.slice p a.length o) a (Y R) (by omega);go_wp2_with fail
   refine e.mono ?_;rintro ba y⟨rfl,x,c,b,f⟩;have s:=Z b;have r:=Z f;have n:=Z c;clear b f c e;go_wp2;go_ret;refine⟨_,x,rfl,?_,Y s,(Y HT).trans (Y r) (λk d=>.inr ((Y R).lt k d).1)⟩;have:=Y HP;simp only[df,cN]at this;exact(Y n).trans this
  ·intro bn pk pv ao x O c E ac bh;obtain⟨bq,bc,br,rfl,rfl,N,rfl⟩:=yZ O;simp only[bY.nm,ly,eY]at N;obtain⟨rfl,rfl⟩:=N;have t:I (λk=>k=w.heap.size) wr x:=I.bz (S:=λk=>k=w.heap.size) E (by rintro k⟨⟩;exact .inl rfl);have L:=t.own (Y R) (λk d T=>Y q (by rw[d,T]));have G:=c.lt;have Q:=Z c;have B:=Z ((Y HT).trans t (λx a=>.inr (by omega)));have r:=Z L;have bf:K.nb≠w.heap.size:=λba=>c.ne ba.symm;have bi:K.nb<w.heap.size:=(Y g).lt;clear O c E ac t L;go_wp2_with(first
    |(at_builtin;go_loud(refine aX _ rfl (.tmp 14) (.tmp 16) 160 rfl w.heap.size 9 i0 (.string ⟨#[]⟩) 1 16 underlying160 V ad al an rfl (by decide) (.slice p a.length o) a.length (strs a) rfl (aM (Y r) (.cells #[.string bc.name] 9)) ⟨x.heap.size,0,none⟩ 1 1 [.string bc.name] rfl rfl (pu _ _ _) (by simp[Value.oneCell']) (by omega) (by omega) (by have:=(Y B).size;simp;omega) ?_;intro v2 w3 b n;obtain⟨bp,bo,rfl⟩:=aC b;have s:=Z b;have C:=Z n;clear b n)))
   have y:=Z (show lf w3 K.nb w.heap.size (K.files.map bY.nm) (bq.map bY.nm++br.map bY.nm)from by
    have f:=Y C;have e:I (λk=>(Value.slice p a.length o).ownBlock=some k) x w3:=((I.refl (λk=>(Value.slice p a.length o).ownBlock=some k) x).alloc _).trans (I.bz (S:=λk=>(Value.slice p a.length o).ownBlock=some k) f.grown (λk d=>.inl d)) (λk d=>.inl d);refine(Y Q).kept (e.block _ (by omega) (λT=>?_)) (e.block _ G (λT=>Y q T));have:=((Y r).lt _ T).1;omega)
   go_roundw;case rel=>
    have f:=Y C;have e:I (λk=>(Value.slice p a.length o).ownBlock=some k) x w3:=((I.refl (λk=>(Value.slice p a.length o).ownBlock=some k) x).alloc _).trans (I.bz (S:=λk=>(Value.slice p a.length o).ownBlock=some k) f.grown (λk d=>.inl d)) (λk d=>.inl d);refine⟨bq++br,a++[bc.name],?_,?_,?_,?_,?_⟩
    ·refine List.Perm.trans ?_ (Y HP);rw[aV];refine mN _ ?_;simp only[aN,aY,iZ];exact jy.symm
    ·rw[Av,ag];exact Y s
    ·rcases f.sr with bb|⟨bs,bb,hg⟩
     ·rw[bb];exact Y q
     ·rw[bb];intro T;cases T;simp at hg;omega
    ·rw[aN];exact Y y
    ·exact(Y B).trans e (λk d=>.inr ((Y r).lt k d).1)
   case measure=>rw[(Y y).left_eq,(Y z).left_eq];simp
end Go.Proofs.YtophdnlmpfmeiaaGreatDoor
