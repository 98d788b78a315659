import Derived.Handy
import Derived.Lib.AppendStr
import Derived.Maps.AppendAt
import Derived.ProofKit
import Derived.WalkKit
open _root_ renaming List.length→y,Option.some→M,Array.size→G,Go.World.heap→H,Go.Value.ownBlock→cN,Go.World.cell?→bA,Go.World.setCell→cP,Go.World.alloc→dw,Bool.false→bD,Bool.true→cz,Nat→R,Int→Y,List→cy,Go.Value.slice→am,Go.Value.string→aw,Go.World.frozen?→iH,Go.World.ownsRow→fD,Go.RowKit.Below→gC,Option.none→dE,rfl→z,Or.inl→J,Or.inr→bj
namespace Go.Proofs.YtbgjhlkoccmfaaaGreatDoor
open ChangeShapes WideShapes RowKit List
set_option maxHeartbeats 16000000
set_option linter.all false
set_option maxRecDepth 100000

abbrev dS:=@Addr.add_lit
abbrev pD:=@Array.getElem?_append_left
abbrev jF:=@Array.getElem?_eq_none
abbrev pC:=@Array.getElem?_eq_some_iff
abbrev sL:=@Array.getElem?_modify
abbrev kX:=@Array.getElem?_setIfInBounds_ne
abbrev sK:=@Array.getElem?_toList
abbrev nG:=@Array.length_toList
abbrev pB:=@Array.mk.injEq
abbrev fc:=@Array.replicate_succ
abbrev fa:=@Array.replicate_zero
abbrev wF:=@Array.setIfInBounds_comm
abbrev pA:=@Array.size_replicate
abbrev nF:=@Array.toList_append
abbrev tH:=@Array.toList_extract
abbrev pz:=@Array.toList_setIfInBounds
abbrev nN:=@Bool.and_eq_true
abbrev zo:=@Bool.false_and
abbrev li:=@Bool.false_eq_true
abbrev Bd:=@Bool.false_or
abbrev zn:=@Bool.not_false
abbrev tj:=@Bool.not_true
abbrev yX:=@Bool.or_eq_true
abbrev af:=ByteArray
abbrev rP:=@ByteArray.data_extract
abbrev jT:=@ByteArray.size_append
abbrev uo:=@ByteArray.toList_eq
abbrev sR:=@Calls.mono
abbrev nM:=@DataW.trod_int
abbrev oY:=@DataW.trod_string
abbrev kK:=@Function.comp_def
abbrev th:=@Iff.rfl
abbrev wi:=@Int.emod_eq_of_lt
abbrev yW:=@Int.emod_nonneg
abbrev lK:=@Int.eq_ofNat_of_zero_le
abbrev xZ:=@Int.lt_or_le
abbrev Ck:=@Int.pow_succ
abbrev ve:=@Int.tmod_eq_emod_of_nonneg
abbrev bR:=@IntKind.wrap_i64
abbrev dY:=@IntKind.wrap_u64
abbrev vU:=@Lib.run_append_own_string
abbrev oQ:=@List.Pairwise.sublist
abbrev sJ:=@List.Perm.append_left
abbrev py:=@List.Perm.refl
abbrev kJ:=@List.Sublist.refl
abbrev nL:=@List.any_eq_true
abbrev cw:=@List.append_assoc
abbrev gB:=@List.append_eq_nil_iff
abbrev uc:=@List.append_inj
abbrev eu:=@List.append_nil
abbrev uZ:=@List.append_of_mem
abbrev fG:=@List.append_toArray
abbrev zh:=@List.concat_eq_append
abbrev iL:=@List.cons.injEq
abbrev dt:=@List.cons_append
abbrev dm:=@List.drop_eq_getElem_cons
abbrev rO:=@List.drop_eq_nil_of_le
abbrev pw:=@List.drop_left
abbrev lh:=@List.drop_length
abbrev mV:=@List.drop_sublist
abbrev bG:=@List.eq_nil_of_length_eq_zero
abbrev zg:=@List.eq_nil_or_concat
abbrev xy:=@List.eraseIdx_cons_succ
abbrev wh:=@List.ext_getElem?
abbrev mA:=@List.filter_append
abbrev wg:=@List.filter_congr
abbrev qW:=@List.filter_cons_of_neg
abbrev xw:=@List.filter_cons_of_pos
abbrev oo:=@List.filter_eq_nil_iff
abbrev nE:=@List.filter_eq_self
abbrev um:=@List.filter_sublist
abbrev gR:=@List.flatMap_append
abbrev dR:=@List.flatMap_cons
abbrev xu:=@List.flatMap_map
abbrev lV:=@List.flatten_append
abbrev di:=@List.flatten_cons
abbrev jz:=@List.flatten_nil
abbrev jR:=@List.foldl_append
abbrev yV:=@List.foldl_cons
abbrev uY:=@List.getD_eq_getElem?_getD
abbrev ir:=@List.getElem?_append_left
abbrev fP:=@List.getElem?_append_right
abbrev qV:=@List.getElem?_cons_succ
abbrev bF:=@List.getElem?_eq_getElem
abbrev mH:=@List.getElem?_eq_none
abbrev iq:=@List.getElem?_eq_some_iff
abbrev fO:=@List.getElem?_map
abbrev fI:=@List.getElem?_set_ne
abbrev xY:=@List.getElem?_set_self
abbrev jl:=@List.getElem?_set_self'
abbrev qJ:=@List.getElem?_take
abbrev qw:=@List.getElem?_take_of_lt
abbrev ul:=@List.getElem_append
abbrev wE:=@List.getElem_append_left
abbrev mM:=@List.getElem_append_right
abbrev mf:=@List.getElem_cons_drop
abbrev cF:=@List.getElem_cons_succ
abbrev cO:=@List.getElem_cons_zero
abbrev rN:=@List.getElem_drop
abbrev mu:=@List.getElem_map
abbrev aB:=@List.getElem_mem
abbrev dJ:=@List.getElem_of_mem
abbrev nJ:=@List.getElem_set
abbrev sI:=@List.getElem_set_self
abbrev oX:=@List.getElem_take
abbrev dl:=@List.getElem_toArray
abbrev ai:=@List.length_append
abbrev bK:=@List.length_cons
abbrev iY:=@List.length_drop
abbrev xq:=@List.length_eq_zero_iff
abbrev gM:=@List.length_filter_le
abbrev uk:=@List.length_flatten
abbrev cS:=@List.length_map
abbrev eE:=@List.length_nil
abbrev iZ:=@List.length_pos_iff
abbrev gz:=@List.length_set
abbrev dX:=@List.length_take
abbrev uj:=@List.length_take_le
abbrev bz:=@List.map_append
abbrev qg:=@List.map_congr_left
abbrev bO:=@List.map_cons
abbrev jy:=@List.map_eq_append_iff
abbrev pu:=@List.map_eq_cons_iff
abbrev we:=@List.map_id
abbrev uX:=@List.map_inj_right
abbrev iV:=@List.map_map
abbrev gA:=@List.map_nil
abbrev xp:=@List.map_reverse
abbrev uv:=@List.map_set
abbrev aP:=@List.mem_append
abbrev gX:=@List.mem_append_left
abbrev oP:=@List.mem_append_right
abbrev dy:=@List.mem_cons
abbrev iz:=@List.mem_cons_of_mem
abbrev iU:=@List.mem_cons_self
abbrev lQ:=@List.mem_filter
abbrev pU:=@List.mem_flatMap
abbrev dO:=@List.mem_flatten
abbrev lG:=@List.mem_iff_getElem
abbrev cC:=@List.mem_map
abbrev ui:=@List.mem_map_of_mem
abbrev iy:=@List.mem_of_getElem?
abbrev mU:=@List.mem_of_mem_drop
abbrev ix:=@List.mem_of_mem_take
abbrev jL:=@List.mem_or_eq_of_mem_set
abbrev zm:=@List.mem_range
abbrev pT:=@List.mem_reverse
abbrev bY:=@List.mem_singleton
abbrev sH:=@List.modify_succ_cons
abbrev sG:=@List.modify_zero_cons
abbrev uW:=@List.ne_nil_of_mem
abbrev ep:=@List.nil_append
abbrev rM:=@List.nodup_append
abbrev kQ:=@List.nodup_cons
abbrev lf:=@List.not_mem_nil
abbrev eH:=@List.pairwise_append
abbrev dp:=@List.pairwise_cons
abbrev sF:=@List.pairwise_flatten
abbrev cW:=@List.pairwise_iff_getElem
abbrev nI:=@List.pairwise_singleton
abbrev xg:=@List.perm_middle
abbrev qI:=@List.prefix_append
abbrev iu:=@List.prefix_append_right_inj
abbrev sQ:=@List.prefix_refl
abbrev gp:=@List.push_toArray
abbrev yU:=@List.range_succ
abbrev wa:=@List.reverse_cons
abbrev dC:=@List.setIfInBounds_toArray
abbrev iI:=@List.set_append_right
abbrev eO:=@List.set_cons_succ
abbrev eY:=@List.set_cons_zero
abbrev kB:=@List.set_eq_take_append_cons_drop
abbrev mG:=@List.singleton_append
abbrev gm:=@List.size_toArray
abbrev mL:=@List.sublist_append_right
abbrev eC:=@List.sublist_flatten_of_mem
abbrev eX:=@List.sum_append
abbrev fq:=@List.sum_cons
abbrev du:=@List.take_append_drop
abbrev jQ:=@List.take_append_of_le_length
abbrev rL:=@List.take_left
abbrev mR:=@List.take_left'
abbrev cQ:=@List.take_length
abbrev fA:=@List.take_of_length_le
abbrev rK:=@List.take_sublist
abbrev uh:=@List.take_succ_cons
abbrev aG:=@List.take_succ_eq_append_getElem
abbrev zl:=@List.take_take
abbrev qH:=@MapKept.heap_alloc
abbrev ia:=@MapKept.heap_set
abbrev fS:=@MapKept.run_checkKey
abbrev fQ:=@MapKept.run_findKey
abbrev kI:=@MapKept.run_getObj_map
abbrev qu:=@MapKept.run_keyThatStays
abbrev gU:=@MapKept.run_setObj_map
abbrev sE:=@MapKept.stamped_empty
abbrev zf:=@MapKept.stamped_erase
abbrev rJ:=@MapKept.stamped_modify
abbrev tG:=@MapKept.stamped_push
abbrev bJ:=@Nat.add_assoc
abbrev Cj:=@Nat.add_comm
abbrev xe:=@Nat.add_sub_cancel_left
abbrev ma:=@Nat.add_zero
abbrev fN:=@Nat.eq_zero_or_pos
abbrev wZ:=@Nat.le_add_right
abbrev aq:=@Nat.le_refl
abbrev qU:=@Nat.le_succ
abbrev aR:=@Nat.le_trans
abbrev tg:=@Nat.lt_irrefl
abbrev au:=@Nat.lt_of_lt_of_le
abbrev ol:=@Nat.lt_or_eq_of_le
abbrev iT:=@Nat.lt_or_ge
abbrev mT:=@Nat.lt_trichotomy
abbrev yT:=@Nat.min_eq_left
abbrev oh:=@Nat.mod_lt
abbrev tF:=@Nat.mul_one
abbrev yS:=@Nat.not_lt_zero
abbrev xX:=@Nat.sub_self
abbrev wY:=@Nat.succ_le_succ
abbrev Ci:=@Nat.succ_mul
abbrev ez:=@Nat.zero_add
abbrev bQ:=@Nat.zero_le
abbrev xW:=@Nat.zero_mul
abbrev FA:=@Ne.symm
abbrev sP:=@Option.getD_none
abbrev ld:=@Option.getD_some
abbrev rI:=@Option.map_eq_some_iff
abbrev uV:=@Option.ne_none_iff_exists'
abbrev iK:=@Option.some.inj
abbrev vZ:=@Option.some.injEq
abbrev js:=@Prod.mk.injEq
abbrev kH:=@Result.andThen_ok
abbrev jx:=@Sem.run_bind
abbrev rH:=@Sem.run_pure
abbrev ae:=Value
abbrev Z:=World
abbrev cA:=@World.block_lt_of_cell?
abbrev tE:=@World.cell?_alloc_at
abbrev eZ:=@World.cell?_alloc_lt
abbrev rG:=@World.cell?_alloc_past
abbrev cL:=@World.cell?_drew
abbrev dZ:=@World.cell?_of_block
abbrev pY:=@World.cell?_setCell_same'
abbrev eR:=@World.grownBy_alloc
abbrev bC:=@World.ownsRow.alloc
abbrev qG:=@World.ownsRow.kept
abbrev aS:=@World.ownsRow.lt
abbrev tD:=@World.ownsRow.stored
abbrev ct:=@World.ownsRow_nil
abbrev yR:=@World.var?_cell
abbrev rF:=@and_true
abbrev nD:=@beq_eq_false_iff_ne
abbrev Bo:=@bne_iff_ne
abbrev xV:=@bodyPost_end
abbrev ci:=@bodyPost_ret
abbrev tf:=@callsIn_of_wp
abbrev ew:=@callsIn_wide
abbrev rE:=@cell_one_new
abbrev cD:=@congrArg
abbrev yQ:=@decide_eq_false
abbrev uU:=@decide_eq_true
abbrev rD:=@decide_eq_true_eq
abbrev Ch:=@decide_false
abbrev zk:=@decide_true
abbrev Fz:=@dif_neg
abbrev Ax:=@dif_pos
abbrev uT:=@grownCap_le_maxLen
abbrev uS:=@growslice_fits
abbrev jo:=@heap_alloc_new
abbrev mz:=@if_false
abbrev fM:=@if_neg
abbrev fV:=@if_pos
abbrev mS:=@if_true
abbrev cZ:=@info_parts
abbrev Aw:=@mem_ready
abbrev lJ:=@of_decide_eq_true
abbrev Cg:=@okWide_slice
abbrev uR:=@or_false
abbrev uQ:=@ready_mono
abbrev jb:=@results_none
abbrev gG:=@results_tmp
abbrev jw:=@results_tmp2
abbrev lz:=@results_tmp3
abbrev im:=@rounds_succ
abbrev oW:=@run_append_own_at
abbrev ze:=@run_append_owned_none
abbrev fF:=@run_callFunc_extern
abbrev xU:=@run_convert_bytes_back
abbrev kP:=@run_loadVar_row
abbrev tC:=@run_makeMap
abbrev Dr:=@run_store
abbrev eV:=@run_underlying
abbrev vY:=@setRow_heap
abbrev uu:=@setRow_other
abbrev Av:=@wpIn_wide
abbrev zj:=@wpListIn_plain
abbrev ke:=@wpList_make_own
abbrev ly:=@wpList_plain
abbrev wX:=@wpOp_mono
abbrev iW:=@wp_loop_rounds
abbrev Bc:=@wp_region_any
variable{a e P:Z}{b c:R}{d w:ae}{B:af}{K:Prop}
def U{p:Prop}(h:p:=by omega):p:=h
def aH{p:Prop}(h:p:=by kernel_rfl):p:=h
def ar{p:Prop}(h:p:=by simp):p:=h
def aI(h:K:=by grind):K:=h
def cg{p:Prop}(h:p:=by decide):p:=h
def dM{p:Prop}(h:p:=by go_num):p:=h
def dW{p:Prop}(h:p:=by simp;omega):p:=h
def sM(h:K:=by simp_all):K:=h
def bP{p a:Prop}(c:a)(h:a->p:=by omega):p:=h c
def dV{p q:Prop}(a:q)(h:q->p:=by intro h;simpa using h):p:=h a
def gV{p a c:Prop}(d:a)(b:c)(h:a->c->p:=by omega):p:=h d b
def Lw{a b c:Prop}(d:a)(e:b)(f:c)(h:a->b->c->K:=by omega):K:=h d e f
def zY{a:Prop}(b:a)(h:a->K:=by grind):K:=h b
def zee{a b:Prop}(c:a)(d:b)(h:a->b->K:=by grind):K:=h c d
def og{α:Type}(a:α):∃b,a=b:=⟨_,rfl⟩
abbrev fB:=R->Prop
abbrev iE:=cy ae
abbrev eD:=cy Y
abbrev X(b i:R):Addr:=⟨b,i,dE⟩
abbrev aJ(b:R):ae:=.pointer<|M ⟨b,0,dE⟩
abbrev bX(b i n c:R):ae:=.slice (M ⟨b,i,dE⟩) n c
abbrev aF:ae:=.slice dE 0 0
abbrev aC{α:Type}:α->Prop:=λ_=>False
abbrev ay:=Value.int .i64
abbrev bw:=Value.int .u64
abbrev eI:=Value.int .u32
abbrev sA:=Value.int .u8
abbrev iC:=Value.int .i32
abbrev aK:=@Obj.cells
abbrev aN:=@Ending.returned
def ak{p:Prop}(h:p):Hid p:=h
theorem ag{p:Prop}(h:Hid p):p:=h
def cY{α:Type}{p:α->Prop}(k:α)(h:aC k):p k:=h.elim
def wO{α β γ:Type}{p:α->β->γ->Prop}(a:α)(b:β)(c:γ)(h:p a b c):p a b c:=h
def wW{α:Type}{a:α}(h:a≠a):K:=(h rfl).elim
def eU{a b c:Prop}(d:a)(e:b)(g:c):Hid a/\Hid b/\Hid c:=⟨d,e,g⟩
def jr{a b c d:Prop}(e:a)(g:b)(h:c)(i:d):Hid a/\Hid b/\Hid c/\Hid d:=⟨e,g,h,i⟩
def nZ{a b c d:Prop}(e:K)(g:a)(h:b)(i:c)(j:d):Hid K/\Hid a/\Hid b/\Hid c/\Hid d:=⟨e,g,h,i,j⟩
def nT{a b c d e:Prop}(f:K)(g:a)(h:b)(i:c)(j:d)(k:e):Hid K/\Hid a/\Hid b/\Hid c/\Hid d/\Hid e:=⟨f,g,h,i,j,k⟩
def zX{a b c d e g:Prop}(h:K)(i:a)(j:b)(k:c)(l:d)(m:e)(n:g):Hid K/\Hid a/\Hid b/\Hid c/\Hid d/\Hid e/\Hid g:=⟨h,i,j,k,l,m,n⟩
def Zu{a b c d e f g:Prop}(h:K)(i:a)(j:b)(k:c)(l:d)(m:e)(n:f)(o:g):Hid K/\Hid a/\Hid b/\Hid c/\Hid d/\Hid e/\Hid f/\Hid g:=⟨h,i,j,k,l,m,n,o⟩
def Hp{a b c d e f g h i:Prop}(j:a)(k:b)(l:c)(m:d)(n:e)(o:f)(p:g)(q:h)(r:i):Hid a/\Hid b/\Hid c/\Hid d/\Hid e/\Hid f/\Hid g/\Hid h/\Hid i:=⟨j,k,l,m,n,o,p,q,r⟩
structure fm(w w':Z)(v v':ae):Prop where
 dF:w.grownBy w' (cN v)
 f:cN v'=cN v\/∃g,cN v'=M g/\G (H w)<=g
theorem fm.bI(w:Z)(v:ae):fm w w v v:=⟨⟨rfl,rfl,rfl,aq _,λ_ _ _=>rfl⟩,J rfl⟩
def fm.aj{i b j:Z}{v x:ae}(h:fm i b d v)(k:fm b j v x):fm i j d x:=by
 refine⟨⟨k.dF.os.trans h.dF.os,k.dF.tape.trans h.dF.tape,k.dF.output.trans h.dF.output,aR h.dF.size k.dF.size,λm a g=>?_⟩,?_⟩;refine(k.dF.block m (au a h.dF.size) ?_).trans<|h.dF.block m a g;grind[fm.f]
 obtain e|⟨n,e,c⟩:=k.f;rw[e];exact h.f;exact bj ⟨n,e,aR h.dF.size c⟩
def fm.aE{v:ae}(o:Obj)(h:fm (a.alloc o) e d v):fm a e d v:=by
 refine⟨(eR a o<|cN d).trans h.dF,?_⟩;obtain b|⟨g,b,c⟩:=h.f;exact J b;exact bj ⟨g,b,by simp at c;omega⟩
def fm.dD(h:fm a e d w){B:R}(b:B<=G (H a))(c:∀k,cN d=M k->B<=k):gC B a e:=(Below.refl B a).grown h.dF b c
def fm.of{w b:Z}{a:ae}(h:w.grownBy b (cN d))(c:cN a=cN d\/cN a=M (G<|H w)):fm w b d a:=⟨h,aI⟩
def Em{P:Program}{F u p v:TypeId}{x:TypeInfo}(r:P.underlying F=M (.slice v))(s:P.underlying u=M .string)(q:P.info? v=M x)(E:x.zero=M (sA 0))(f:x.size=1)(k:x.bytes=1){t:cy ae}(i:fD a b v 1 d c t)(h:c+B.size<=140737488355328)(m:(Builtin.append_ #[F,u] p #[d,aw B]).run P a=.ok w e):cN w=cN d\/cN w=M (G<|H a):=by
 obtain⟨rfl,rfl⟩|⟨K,g,o,rfl,L,O,Q,N,A,C⟩:=i.2;by_cases n:B.size=0;(let⟨S,l,j,_,_,D⟩:=vU (P:=P) a 0 F u p v x r s q E f k aF 0 [] (ct a 0 v 1) B aI h<|bQ _;rw[j]at m;grind);have j:=run_append_nil_string (P:=P) a F u p v x (sA 0) r s q E B U U (by rw[k];omega);rw[j]at m;cases m;exact bj z;by_cases n:c+B.size<=g;have:o.size=g:=dV A;have j:=Lib.run_append_room_string (P:=P) a F u p v x r s q f K c g o O B n U;rw[j]at m;cases m;exact J z;have l:∀j u,t[j]?=M u->bA a (((X K 0):Addr).add j)=M u:=i.cells (g:=K) z;have D:y t=c:=aI;have j:=Lib.run_append_grow_string (P:=P) a F u p v x (sA 0) r s q E (X K 0) c g t (by rw[f];simpa using D) l B U U<|k▸uS U U;rw[j]at m;cases m;exact bj z
def vg{P:Program}(A:Z){g:Array Oper}{d:cy Oper}{v:Oper}{B:Act}{T:Exit->Act->Z->Prop}(m:v.guard=dE)(x V:Operand)(Q S:TypeId)(L:v.op=.call {callee:=.builtin .append,args:=#[x,V],argTypes:=#[Q,S]})(k:R)(o:TypeId)(u:TypeInfo)(r:P.underlying Q=M (.slice o))(s:P.underlying S=M .string)(p:P.info? o=M u)(t:u.zero=M (sA 0))(b:u.size=1)(f:u.bytes=1)(D:ae)(C:R)(n:cy ae)(N:B.eval x=D)(c:fD A k o 1 D C n)(w:af)(O:B.eval V=aw w)(a:C+w.size<=140737488355328)(e:k<=G (H A))(h:∀i j,fD j k o 1 i (C+w.size) (n++Lib.strCells w)->fm A j D i->wpList P g T d (B.put v.dst i) j):wpList P g T (v::d) B A:=by
 refine ly m λW K=>?_;let⟨i,j,q,E,F,_⟩:=vU (P:=P) A k Q S v.type o u r s p t b f D C n c w (by unfold maxLen;omega) a e;have l:=Em r s p t b f c a q;unfold Oper.wp execOp;simp only[L,resolve,invoke,builtin,jx,rH,kH,List.map_toArray,bO,gA,N,O,q];exact K _ _<|h i j E<|fm.of F l
def cq{P:Program}(w:Z){i:Array Oper}{rest:cy Oper}{A:Oper}{x:Act}{ac:Exit->Act->Z->Prop}(o:A.guard=dE)(aa ab:Operand)(B:TypeId)(S:A.op=.call {callee:=.builtin .append,args:=#[aa,ab],argTypes:=#[B,B]})(k:R)(t:TypeId)(u:TypeInfo)(m9:ae)(a bytes:R)(W:P.underlying B=M (.slice t))(O:P.info? t=M u)(hz:u.zero=M m9)(f:u.size=a)(n:u.bytes=bytes)(q:m9.cells.size=a)(p:0<a)(D:ae)(v:R)(r:cy ae)(V:x.eval aa=D)(g:fD w k t a D v r)(m:Addr)(s ad:R)(b:cy ae)(hx:x.eval ab=am (M m) s ad)(Q:y b=s*a)(e:∀al C,b[al]?=M C->bA w (m.add al)=M C)(E:∀C∈b,C.oneCell'=cz)(hn:v+s<=140737488355328)(c:(v+s)*bytes<=140737488355328)(d:k<=G (H w))(h:∀j w',fD w' k t a j (v+s) (r++b)->fm w w' D j->wpList P i ac rest (x.put A.dst j) w'):wpList P i ac (A::rest) x w:=wpList_append_own_at w o aa ab B S k t u m9 a bytes W O hz f n q p D v r V g m s ad b hx Q e E (by unfold maxLen;omega) c d λj w' K L _ N=>h j w' K<|fm.of L N
def zZ{b:Option R}(h:a.grownBy e b)(k:e.grownBy P b):a.grownBy P b:=h.trans k
def aY{w:Z}{c i:R}{u:ae}{a:Array ae}{t:TypeId}{b:R×R}(h:w.heap[c]?=M (aK a t b)):(cP w (X c i) u).heap[c]?=M (aK (a.setIfInBounds i u) t b):=by
 simp only[World.setCell,sL,h];simp
def eG(w:Z)(b i:R)(u:ae):w.grownBy (cP w (X b i) u) (M b):=⟨z,z,z,sM,λk _ a=>Below.heap_setCell w (X b i) u k<|λe=>a<|by rw[e]⟩
def vF(w:Z)(a:Option R):w.grownBy w a:=⟨rfl,rfl,rfl,aq _,λ_ _ _=>rfl⟩
theorem cE{b i:R}{c:Array ae}{t:TypeId}{d:R×R}(h:a.heap[b]?=M (aK c t d)):bA a (X b i)=c[i]?:=by simp[World.cell?,h]
def aX{w:Z}{a:Array ae}{t:TypeId}{c:R×R}(h:w.heap[b]?=M (.cells a t c))(i:R)(e:a.toList[i]?=M d:=by rfl):bA w (X b i)=M d:=by rw[cE h,<-e];simp
def cV{c i:R}{b:Array ae}{t:TypeId}(h:a.heap[c]?=M (aK b t (0,0))):iH a (X c i)=bD:=by simp[World.frozen?,h]
def gP{o:Obj}(h:b<G (H a)):bA (dw a o) (X b c)=bA a (X b c):=dZ (w:=a)<|Below.heap_alloc a o b h
def _root_.Go.RowKit.Below.of_heap(h:gC b a e)(c:(P.os,P.tape,P.output,P.heap)=(e.os,e.tape,e.output,e.heap)):gC b a P:=by
 simp only[js]at c;exact⟨c.1.trans h.os,c.2.1.trans h.tape,c.2.2.1.trans h.output,c.2.2.2▸h.size,λk d=>c.2.2.2▸h.block k d⟩
theorem az{w:Z}{b:R}{o:Obj}(h:w.heap[b]?=M o):b<G (H w):=by
 by_cases a:b<G (H w);exact a;grind
