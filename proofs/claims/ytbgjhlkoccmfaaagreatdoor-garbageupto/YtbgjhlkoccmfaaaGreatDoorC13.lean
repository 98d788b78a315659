import Derived.Test.YtbgjhlkoccmfaaaGreatDoorCards
import Derived.Test.YtbgjhlkoccmfaaaGreatDoorTie
import Derived.Test.YtbgjhlkoccmfaaaGreatDoorC12
open _root_ renaming Option.some→M,Array.size→G,Go.World.heap→H,Bool.false→bD,Bool.true→cz,Nat→R,List→cy,Go.Proofs.Tryz.prog→bN,Go.RowKit.Below→gD,Bool→eN,rfl→z
namespace Go.Proofs.YtbgjhlkoccmfaaaGreatDoor
open ChangeShapes WideShapes RowKit Proofs.Tryz
set_option maxHeartbeats 16000000
set_option linter.all false
set_option maxRecDepth 100000
section
open ChangeAt WideMaps WideElems
section
variable{u7:Type}{enc:TypeId×ae->u7}{P:Program}{w:Z}{n6:R}{a:R->eN}{b:eN}
theorem KD{V x i A B:TypeId}{c:Array ae}{u:cy (DataW u7)}{v:cy MemPlace}(h:DataW.TrodAll enc P w n6 a b [V,x,i,A,B] c.toList u v):∃E p f r s C j d k l D m e n o,c=#[E,p,f,r,s]/\u=[C,j,d,k,l]/\v=D++(m++e++n++o)/\DataW.Trod enc P w n6 a b V E C D/\DataW.Trod enc P w n6 a b x p j m/\DataW.Trod enc P w n6 a b i f d e/\DataW.Trod enc P w n6 a b A r k n/\DataW.Trod enc P w n6 a b B s l o:=by
 obtain⟨E,T,C,F,D,q,t,rfl,rfl,S,g⟩:=trodAll_cons h;obtain⟨p,f,r,s,j,d,k,l,m,e,n,o,K,rfl,rfl,L,N,O,Q⟩:=trodAll_four (args:=⟨T⟩) g;cases K;exact⟨E,p,f,r,s,C,j,d,k,l,D,m,e,n,o,by cases c;simp_all,z,z,S,L,N,O,Q⟩
end
theorem Z1(o:Os)(e:o.Started)(u7:Type)(enc:TypeId×ae->u7)(ap:Stop.Interp):ReturnsInHanded {} checked o 3 .any ((Rows.OpenSpec.upto Rows.garbageSpec).preRow enc bN f3 Rows.garbageUptoRow.domain bD Rows.garbageUptoRow.laid) (((Rows.OpenSpec.upto Rows.garbageSpec).at ap).post enc bN f3 bD cz bD bD):=by
 refine returnsInHanded_of_row (C:=checked) (s:=Rows.OpenSpec.upto Rows.garbageSpec) own e aH func3 (Xt o u7 enc) ?_;intro W n6 f ds gs p j hW _ g ao hL _ _;have c:∀(d:R)t v,f3.params[d]?=M t->f[d]?=M v->Value.okWide bN W .any n6 t v:=j;have n:=hW;obtain⟨av,q,hA0,hV,rfl,al,an⟩:=hW;have hA:DataW.TrodAll enc bN W 0 (λ_=>cz) cz f3.params.toList f.toList ds av:=hA0;rw[TT]at hA c;obtain⟨v0,v1,v2,v3,v4,S,d1,d2,T,V,O,p1,p2,p3,p4,rfl,rfl,rfl,h0,h1,h2,h3,h4⟩:=KD hA;obtain⟨rfl,rfl⟩:=trodVars_none hV;obtain⟨N,rfl,rfl,rfl,K⟩:=open_int IA (c 1 3 v1 rfl rfl) h1;obtain⟨aa,rfl,rfl,rfl,L⟩:=open_int IA (c 2 3 v2 rfl rfl) h2;let⟨hS,hP,hE,m⟩:=I6 hL;obtain⟨x0,l0,Q,rfl⟩:=Ch zbj (c 0 22 v0 rfl rfl);obtain⟨x3,l3,c3,rfl⟩:=Ch zbh (c 3 23 v3 rfl rfl);obtain⟨x4,l4,c4,rfl⟩:=Ch zbi (c 4 24 v4 rfl rfl);have i:∀x∈O++p3++p4,x.block<G (H W):=λx k=>n.lt x (by simp only[aP]at k|-;grind);have d:Rows.uptoBulk S<=1048576/\Rows.uptoBulk T<=1048576/\Rows.uptoBulk V<=1048576:=by have h:=lK (g _ z);simp only[eu,Rows.uptoBulkAll]at h;omega
 have u:∀l,I aC W l->Rows.garbageSpec.post enc bN f3 bD cz bD bD W #[.slice x0 l0 Q,.int .i64 N,.int .i64 aa,.slice x3 l3 c3,.slice x4 l4 c4] (.bool cz) l:=λl F=>by have r:gD (G (H W)) W l:=F.dD (aq _) (λd c=>c.elim);refine⟨[S,.lit (.int .i64 N),.lit (.int .i64 aa),T,V],[],_,[],O++([]++([]++(p3++p4))),[],n,?_,?_,?_,r.frame _,λh=>by cases h⟩;exact trodAll_mk1 (shut_bool Q5 cz);exact⟨O,_,Below.trod CP zbx (by rw[KB];decide) h0 r (λx k=>i x (by simp[k])),trodAll_mk4 (shut_int IA K) (shut_int IA L) (Below.trod CP zbw (by rw[KB];decide) h3 r (λx k=>i x (by simp[k]))) (Below.trod CP zbv (by rw[KB];decide) h4 r (λx k=>i x (by simp[k]))),rfl⟩;rfl
 let⟨f0,A⟩:=h0;let⟨f3,B⟩:=h3;let⟨f4,D⟩:=h4;let⟨a0,o,ab,e0,E,hd⟩:=Sb (v:=.slice x0 l0 Q) A d.1;let⟨a3,qs,ac,e3,hq⟩:=Ow (v:=.slice x3 l3 c3) B d.2.1;let⟨a4,rs,ad,e4,hr⟩:=YA (v:=.slice x4 l4 c4) D d.2.2;cases e0;cases e3;cases e4;exact(SH _ _ _ o qs rs _ _ _ N aa hd E hq hr hS hP hE m (VK hS hP hE m)).mono λe l⟨c,F⟩=>⟨_,c,u l F⟩
end
section
open Go
theorem jA:(Rows.garbageUptoRow.inPlace==prog.inPlace 3)=cz:=aH
theorem jB:(Rows.garbageUptoRow.unfollowed==prog.unfollowed 3)=cz:=aH
theorem jC:(Rows.garbageUptoRow.recurses==prog.recurses 3)=cz:=aH
theorem jD:(Rows.garbageUptoRow.named==prog.varsNamed 3)=cz:=aH
theorem jE:mapsRowed bN=cz:=aH
theorem jG:joinedFacts bN 3 f3 Rows.garbageSpec Rows.garbageUptoRow=cz:=by
 unfold joinedFacts;rw[jA,jB,jC,jD,jE,CP];kernel_rfl
theorem jH:f3.isInstance bN Rows.garbageUptoRow.origin Rows.garbageUptoRow.targs:=lK aH
theorem jI:f3.isWrapper bN Rows.garbageUptoRow.wrapper Rows.garbageUptoRow.mainSum:=by unfold Func.isWrapper;first|(rw[fW (by decide+kernel)];kernel_rfl)|(rw[fN (by decide+kernel)];exact⟨rfl,rfl⟩)
theorem jK:prog.funcNamed "levels/levelslaw.Garbage" =M 3:=aH
theorem Pw:Rows.GarbageUptoSaid:=OpenClaim.holds_of_cond 3 f3 z z z z z z z ⟨z,z,z,z,z⟩ z z z z z jK func3 jG jH jI (λc a u7 b _ F=>by rw[OpenClaim.pre_eq_preRow];exact Z1 c a u7 b F)
theorem garbage_holds:Rows.GarbageUptoCardSaid:=Claim7.holds_tied_plain_at .later [] [.data,.data,.data,.data,.handle,.sentinel,.sentinel] cz (cz,"a57c10eb529f987bfbc03d39bcea43fa2cc6f7e6a8c4effeefad851293e751a2") cz Pw (λ_ h=>by cases h) aH (λ_ h=>by cases h) garbageUpto_row_tie rfl ⟨rfl,rfl⟩ aH rfl (λf b c a=>by
 obtain rfl:f=3:=iL (jK.symm.trans c)|>.symm;obtain rfl:b=f3:=(iL (func3.symm.trans a)).symm;exact⟨aH,λj t d=>by
  rw[TT]at d;have:t∈[22,3,3,23,24]:=aI;have:([22,3,3,23,24].all λu=>!prog.wantsStandIn u)=cz:=aH;exact(show prog.wantsStandIn t=bD by grind)⟩)
 aH
#print axioms garbage_holds
end
