import Derived.Ground.MpProg
import Derived.Ground.NamesProg
import Derived.Shelf.Pu.Clone
import Derived.Shelf.Sort.Plain
import Derived.Test.YtgbhcncpienkcaaGreatDoorC4
open _root_ renaming List.length→y,Option.some→H,Array.size→z,Go.World.heap→G,Go.Value.ownBlock→ct,Nat→M,List→cw,Go.Calls→cD,Go.Proofs.Tryz.prog→bz,Go.Value.slice→J,Go.Value.string→aj,Go.Value.tuple→dw
namespace Go.Proofs.YtgbhcncpienkcaaGreatDoor
open ChangeShapes WideShapes RowKit Proofs.Tryz List
set_option maxHeartbeats 16000000
set_option linter.all false
set_option maxRecDepth 100000
variable{a:Y}{b:M}{d:aa}
section
open Shelf
def JQ:Go.Shelf.Ren:=⟨λ|25=>192|n=>n,λ|9=>9|3=>3|4=>4|37=>135|0=>0|47=>369|5=>5|n=>n,λ|n=>n⟩
def VV:Go.Proofs.LaysPu.n25 bz JQ:={mixed:=by kernel_rfl,f25:=func192.trans (bX H<|by kernel_rfl),t0:=underlying0,a0:=isAgg0,z0:=sizeOf0,v0:=zeroValue0,i0:=by kernel_rfl,t3:=underlying3,a3:=isAgg3,z3:=sizeOf3,v3:=zeroValue3,i3:=by kernel_rfl,t4:=underlying4,a4:=isAgg4,z4:=sizeOf4,v4:=zeroValue4,i4:=by kernel_rfl,t5:=underlying5,a5:=isAgg5,z5:=sizeOf5,v5:=zeroValue5,i5:=by kernel_rfl,t9:=underlying9,a9:=isAgg9,z9:=sizeOf9,v9:=zeroValue9,i9:=by kernel_rfl,t37:=underlying135,a37:=isAgg135,z37:=sizeOf135,v37:=zeroValue135,i37:=by kernel_rfl,t47:=underlying369,a47:=isAgg369,z47:=sizeOf369,v47:=zeroValue369,i47:=by kernel_rfl}
def rl(s:ab)(w:Y)(f:s.size<=281474976710656):cD bz 122 #[aj s] w λe a=>e=aL (aj s)/\Below (z<|G w) w a:=by
 have h:=AnyPu.stringslite_Clone VV s w f;have d:cD bz 192 #[aj s] w λe a=>e=aL (aj s)/\Below (z<|G w) w a:=h;clear h;go_in
 go_wp2_with fail
 apply d.mono;rintro e g⟨rfl,b⟩;have c:=U b;clear b;go_wp2;go_ret;exact⟨rfl,c⟩
end
section
open Shelf
def MI:Go.Shelf.Ren:=⟨λ|190=>40|125=>77|258=>76|128=>139|129=>140|302=>130|303=>131|304=>132|305=>133|306=>134|307=>135|308=>136|309=>137|310=>138|333=>194|329=>195|330=>196|334=>197|335=>198|336=>199|344=>242|n=>n,λ|31=>57|9=>9|3=>3|46=>46|0=>0|51=>91|53=>98|4=>4|183=>244|182=>243|131=>249|5=>5|218=>311|222=>315|228=>370|229=>63|n=>n,λ|n=>n⟩
def Tryz.lays190:Go.Proofs.Lays.n190 bz MI:={mixed:=by kernel_rfl,f125:=func77.trans (bX H<|by kernel_rfl),f128:=func139.trans (bX H<|by kernel_rfl),f129:=func140.trans (bX H<|by kernel_rfl),f190:=func40.trans (bX H<|by kernel_rfl),f258:=func76.trans (bX H<|by kernel_rfl),f302:=func130.trans (bX H<|by kernel_rfl),f303:=func131.trans (bX H<|by kernel_rfl),f304:=func132.trans (bX H<|by kernel_rfl),f305:=func133.trans (bX H<|by kernel_rfl),f306:=func134.trans (bX H<|by kernel_rfl),f307:=func135.trans (bX H<|by kernel_rfl),f308:=func136.trans (bX H<|by kernel_rfl),f309:=func137.trans (bX H<|by kernel_rfl),f310:=func138.trans (bX H<|by kernel_rfl),f329:=func195.trans (bX H<|by kernel_rfl),f330:=func196.trans (bX H<|by kernel_rfl),f333:=func194.trans (bX H<|by kernel_rfl),f334:=func197.trans (bX H<|by kernel_rfl),f335:=func198.trans (bX H<|by kernel_rfl),f336:=func199.trans (bX H<|by kernel_rfl),f344:=func242.trans (bX H<|by kernel_rfl),t0:=underlying0,a0:=isAgg0,z0:=sizeOf0,v0:=zeroValue0,t3:=underlying3,a3:=isAgg3,z3:=sizeOf3,v3:=zeroValue3,t4:=underlying4,a4:=isAgg4,z4:=sizeOf4,v4:=zeroValue4,t5:=underlying5,a5:=isAgg5,z5:=sizeOf5,v5:=zeroValue5,t9:=underlying9,a9:=isAgg9,z9:=sizeOf9,v9:=zeroValue9,t31:=underlying57,a31:=isAgg57,z31:=sizeOf57,v31:=zeroValue57,t46:=underlying46,a46:=isAgg46,z46:=sizeOf46,v46:=zeroValue46,t51:=underlying91,a51:=isAgg91,z51:=sizeOf91,v51:=zeroValue91,t53:=underlying98,a53:=isAgg98,z53:=sizeOf98,v53:=zeroValue98,t131:=underlying249,a131:=isAgg249,z131:=sizeOf249,v131:=zeroValue249,t182:=underlying243,a182:=isAgg243,z182:=sizeOf243,v182:=zeroValue243,t183:=underlying244,a183:=isAgg244,z183:=sizeOf244,v183:=zeroValue244,t218:=underlying311,a218:=isAgg311,z218:=sizeOf311,v218:=zeroValue311,t222:=underlying315,a222:=isAgg315,z222:=sizeOf315,v222:=zeroValue315,t228:=underlying370,a228:=isAgg370,z228:=sizeOf370,v228:=zeroValue370,t229:=underlying63,a229:=isAgg63,z229:=sizeOf63,v229:=zeroValue63}
def strs(a:cw ab):iC:=a.map Value.string
def JP(w:Y):cD bz 140 #[aJ 0] w λe a=>e=aL (ap 0)/\a=w:=by
 go_in
 go_wp2;go_ret;exact⟨by simp;kernel_rfl,rfl⟩
def Pw(w:Y):cD bz 77 #[aJ 0] w λe a=>e=aL (ap 0)/\a=w:=by
 have h:=JP w;go_in
 go_wp2_with(go_at_call 140;refine h.mono ?_;rintro e a⟨rfl,rfl⟩)
 go_wp2;go_ret;exact⟨rfl,rfl⟩
def JX(w:Y):cD bz 130 #[aD,ap 0,ap 0] w λe a=>e=aL (dw #[])/\a=w:=by
 go_in
 go_wp2;refine mr 1 ?_;rw[ku];go_wp2;go_end0;exact⟨rfl,rfl⟩
def Vq(w:Y):cD bz 76 #[aD,ap 0,ap 0,ap 0] w λe a=>e=aL (dw #[])/\a=w:=by
 have h:=JX w;go_in
 go_wp2;refine mr 1 ?_;rw[ku];go_wp2_with fail
 apply h.mono;rintro e a⟨rfl,rfl⟩;go_wp2;refine cP (iT rfl _ _ _) rfl ?_;exact⟨rfl,rfl⟩
def RT(w:Y):cD bz 40 #[aD] w λe a=>e=aL (dw #[])/\a=w:=by
 have h:=Vq w;have b:=Pw w;go_in
 go_wp2_with(first|(go_at_call 77;refine b.mono ?_;rintro e a⟨rfl,rfl⟩)|(go_at_call 76;refine h.mono ?_;rintro e a⟨rfl,rfl⟩))
 go_wp2;go_end0;exact⟨rfl,rfl⟩
def UM(c:cw ab)(Q:a.ownsRow b 9 1 d (y c) (strs c))(hn:y c<=1000000000000):cD bz 40 #[d] a λD C=>D=aL (dw #[])/\∃P:cw ab,P.Perm c/\C.ownsRow b 9 1 d (y P) (strs P)/\I (λB=>ct d=H B) a C:=by
 rcases Q.2 with⟨rfl,h0⟩|⟨u,t,h,rfl,E,v,O,F,K,q⟩;apply(RT a).mono;rintro D C⟨rfl,rfl⟩;exact⟨rfl,c,mG _,Q,I.refl _ _⟩;obtain⟨k,p⟩:∃k,c.map (λT=>T.data.toList)=k:=⟨_,rfl⟩;(have o:y k=y c:=by rw[<-p,cV]);(have e:∀j(l:j<y c),h[j]?=H (aj c[j]):=by intro j l;(have s:(h.toList.take<|y c*1)[j]?=(strs c)[j]?:=by rw[q]);rw[rF,oI l]at s;rw[<-wS,s];simp[strs,l]);(have V:Go.Sort.Holds encStr a u 0 k.toArray:=by intro j l;(have w:j<y c:=by simpa[o]using l);(have L:j<y k:=by omega);refine⟨?_,by simp[World.frozen?,v]⟩;rw[dp,bL v,e j w];(have:k.toArray[j]! =c[j].data.toList:=by rw[getElem!_pos _ j<|by simpa using L];simp[<-p]);rw[this]);have W:=Any.slices_Sort_string Tryz.lays190 u 0 t k a V (am v) (by omega);rw[o]at W;apply W.mono;rintro D C⟨rfl,X,A,rfl⟩;obtain⟨g,x⟩:∃g,k.mergeSort (λc a=>decide<|c<=a)=g:=⟨_,rfl⟩;(have f:g.Perm k:=by rw[<-x];exact List.mergeSort_perm _ _);rw[x];(have r:y g=y c:=by rw[f.length_eq,o]);(have m:(Go.Sort.grow (Go.Sort.putRow encStr (Go.Sort.ahead a X) u 0 g.toArray) A).heap[u]?=H (ar (Go.Sort.putCells encStr 0 g.toArray h) 9 (0,0)):=by show((a.heap.modify u _)++A)[u]?=_;rw[nN (by simp;exact am v),qO,dz rfl,v];rfl);(have i:∀B,B<z (G a)->B≠u->(Go.Sort.grow (Go.Sort.putRow encStr (Go.Sort.ahead a X) u 0 g.toArray) A).heap[B]?=a.heap[B]?:=by intro B N n;show((a.heap.modify u _)++A)[B]?=_;rw[nN (by simp;exact N),qO,dr<|λD=>n D.symm]);refine⟨rfl,g.map<|λS=>⟨S.toArray⟩,?_,⟨by simp[strs],.inr ⟨u,t,_,by rw[cV,r],E,m,by rw[cV,r];exact O,F,by simpa[Go.Sort.putCells]using K,?_⟩⟩,rfl,rfl,rfl,?_,?_⟩;have s:=f.map (λS:cw UInt8=>(⟨S.toArray⟩:ab));rw[<-p,iz]at s;(have w:c.map ((λS:cw UInt8=>(⟨S.toArray⟩:ab))∘λT=>T.data.toList)=c:=by(conv=>rhs;rw[<-tW c]);apply mj;intro T _;simp);rw[w]at s;exact s;apply tY;intro j;rw[cV,r,rF];by_cases l:j<y c;rw[oI l];(have w:j<y g:=by omega);(have:(Go.Sort.putCells encStr 0 g.toArray h).toList[j]?=H (aj ⟨g[j].toArray⟩):=by rw[wS];unfold Go.Sort.putCells;rw[Array.getElem?_mapIdx,e j l];simp[w,encStr]);rw[this];simp[strs,w];rw[List.getElem?_take_eq_none (by omega),lq (by simp[strs];omega)];show z (G a)<=((a.heap.modify u _)++A).size;simp;intro B N n;exact i B N<|λD=>n (by rw[D];rfl)
end
def Fy:(prog.info? 9).map (λi=>(i.zero,i.size,i.bytes))=H (H<|aj ⟨#[]⟩,1,16):=by kernel_rfl
def Hh(a:cw ab)(n:ab):strs (a++[n])=strs a++[aj n]:=by simp[strs]
def AI{db:M}{K:DK}{w:Y}(h:cQ w db K)(hn:y K.files<=100000000):cD bz 15 #[ay db] w λau w'=>∃v' a,au=aL v'/\List.Perm a (K.files.map df.name)/\w'.ownsRow (z<|G w) 9 1 v' (y a) (strs a)/\I az w w':=by
 obtain⟨i0,V,ad,al,an⟩:=cH Fy;have bb:=cellAt h.iq 0 rfl;have g:=U h.now;clear h;go_in
 go_wp2_with(first
  |(at_range;refine uz _ rfl _ 78 rfl 9 134 underlying78 K.nb _ rfl g ?_;intro w0 i A bg;have O:=U i;have u:=U A;clear i A))
 go_frame
 go_loopw [3] (λo wr=>∃(aq:cw df)(a:cw ab),(a++aq.map df.name).Perm (K.files.map df.name)/\wr.ownsRow (z<|G w) 9 1 o (y a) (strs a)/\ct o≠H (z<|G w)/\qE wr K.nb (z<|G w) (K.files.map df.nm) (aq.map df.nm)/\I az w wr) (λ_ wr=>wr.rangeLeft K.nb<|z<|G w)
 case atStart=>exact⟨K.files,[],mG _,bK _ _ _ _,(by simp[ct]),O,I.dJ u<|by simp⟩
 case round=>
  obtain⟨aq,a,hp,W,E,C,ht⟩:=hrel;have bf:y a<=100000000:=by have:=hp.length_eq;grind
  obtain⟨q,p,X⟩:=aA W;obtain⟨t,HT,HP,Q,l⟩:=je C ht hp W E;clear C ht hp W E;subst X;go_wp2_with(first
   |(at_next;refine vS _ rfl _ rfl K.nb (z (G w)) _ _ rfl t ?_ ?_))
  .intro o;obtain rfl:aq=[]:=by simpa using o
   have e:=UM a Q (by omega);go_wp2_with fail
   apply e.mono;rintro au s⟨rfl,r,c,b,f⟩;obtain⟨n,m,j⟩:=dA b f c;clear b f c e;go_wp2;go_ret;refine⟨_,r,rfl,?_,n,HT.trans m<|λk d=>.inr (Q.lt k d).1⟩;have:=ae HP;simp only[fW,ee]at this;exact j.trans this
  .intro bh pk pv ao r N c B ac bc;obtain⟨bl,ax,bm,rfl,rfl,L,rfl⟩:=EX N;simp only[df.nm,pm,ji]at L;obtain⟨rfl,rfl⟩:=L;have o:I (λk=>k=z (G w)) wr r:=fm B;have F:=o.own Q (λk d T=>ae l<|by rw[d,T]);have D:=c.lt;obtain⟨P,v,m⟩:=dA c (HT.trans o<|λx a=>.inr<|by omega) F;have ba:K.nb≠z (G w):=λau=>c.ne au.symm;have bd:K.nb<z (G w):=g.lt;clear N c B ac o F;go_wp2_with(first
    |(at_builtin;go_loud(refine bO _ rfl (.tmp 14) (.tmp 16) 57 rfl (z (G w)) 9 i0 (.string ⟨#[]⟩) 1 16 underlying57 V ad al an rfl (by decide) (.slice q (y a) p) (y a) (strs a) rfl (aN m (.cells #[.string ax.name] 9)) (R (z (G r)) 0) 1 1 [.string ax.name] rfl rfl (pt _ _ _) (by simp[Value.oneCell']) (by omega) (by omega) (by have:=v.size;simp;omega) ?_;intro v2 w3 b j;obtain⟨bk,bi,rfl⟩:=aA b;have n:=U b;have x:=U j;clear b j)))
   have s:=U (show qE w3 K.nb (z<|G w) (K.files.map df.nm) (bl.map df.nm++bm.map df.nm)from by
    have f:=ae x;have e:I (λk=>ct (J q (y a) p)=H k) r w3:=((I.refl (λk=>ct (J q (y a) p)=H k) r).alloc _).trans (I.dJ (S:=λk=>ct (J q (y a) p)=H k) f.grown (λk d=>.inl d)) (λk d=>.inl d);refine P.kept (e.block _ (by omega) (λT=>?_)) (e.block _ D (λT=>ae l T));have:=(m.lt _ T).1;omega)
   go_roundw;case rel=>
    have f:=ae x;have e:I (λk=>ct (J q (y a) p)=H k) r w3:=((I.refl (λk=>ct (J q (y a) p)=H k) r).alloc _).trans (I.dJ (S:=λk=>ct (J q (y a) p)=H k) f.grown<|λk d=>.inl d)<|λk d=>.inl d;refine⟨bl++bm,a++[ax.name],?_,?_,?_,?_,?_⟩
    .refine List.Perm.trans ?_ HP;rw[bD];refine qN _ ?_;grind[singleton_append,Perm.symm,perm_middle]
    .rw[Hh,af];exact n
    .rcases f.ur with av|⟨bn,av,hg⟩
     .rw[av];exact l
     .rw[av];intro T;cases T;simp at hg;omega
    .rw[aQ];exact s
    .exact v.trans e<|λk d=>.inr (m.lt k d).1
   case measure=>rw[(ae s).left_eq,(ae t).left_eq];simp
