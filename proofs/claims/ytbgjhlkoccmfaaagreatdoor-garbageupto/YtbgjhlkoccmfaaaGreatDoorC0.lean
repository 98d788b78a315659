import Derived.Handy
import Derived.Lib.AppendStr
import Derived.Maps.AppendAt
import Derived.ProofKit
import Derived.WalkKit
open _root_ renaming List.length→y,Option.some→M,Array.size→G,Go.World.heap→H,Go.Value.ownBlock→cN,Go.World.cell?→bA,Go.World.setCell→cP,Go.World.alloc→dw,Bool.false→bD,Bool.true→cz,Nat→R,Int→Y,List→cy,Go.Value.slice→am,Go.Value.string→aw,Go.World.frozen?→iI,Go.World.ownsRow→fE,Go.RowKit.Below→gD,Option.none→dE,rfl→z,Or.inl→J,Or.inr→bu
namespace Go.Proofs.YtbgjhlkoccmfaaaGreatDoor
open ChangeShapes WideShapes RowKit List
set_option maxHeartbeats 16000000
set_option linter.all false
set_option maxRecDepth 100000

abbrev dS:=@Addr.add_lit
abbrev pF:=@Array.getElem?_append_left
abbrev jJ:=@Array.getElem?_eq_none
abbrev pE:=@Array.getElem?_eq_some_iff
abbrev sN:=@Array.getElem?_modify
abbrev kY:=@Array.getElem?_setIfInBounds_ne
abbrev sM:=@Array.getElem?_toList
abbrev nH:=@Array.length_toList
abbrev pD:=@Array.mk.injEq
abbrev fh:=@Array.replicate_succ
abbrev fc:=@Array.replicate_zero
abbrev wG:=@Array.setIfInBounds_comm
abbrev pC:=@Array.size_replicate
abbrev nG:=@Array.toList_append
abbrev tJ:=@Array.toList_extract
abbrev pB:=@Array.toList_setIfInBounds
abbrev nP:=@Bool.and_eq_true
abbrev zp:=@Bool.false_and
abbrev lj:=@Bool.false_eq_true
abbrev Be:=@Bool.false_or
abbrev zo:=@Bool.not_false
abbrev tr:=@Bool.not_true
abbrev yY:=@Bool.or_eq_true
abbrev af:=ByteArray
abbrev rR:=@ByteArray.data_extract
abbrev jU:=@ByteArray.size_append
abbrev uq:=@ByteArray.toList_eq
abbrev sU:=@Calls.mono
abbrev nN:=@DataW.trod_int
abbrev oZ:=@DataW.trod_string
abbrev kL:=@Function.comp_def
abbrev tq:=@Iff.rfl
abbrev wk:=@Int.emod_eq_of_lt
abbrev yX:=@Int.emod_nonneg
abbrev lL:=@Int.eq_ofNat_of_zero_le
abbrev ya:=@Int.lt_or_le
abbrev Cl:=@Int.pow_succ
abbrev vf:=@Int.tmod_eq_emod_of_nonneg
abbrev bR:=@IntKind.wrap_i64
abbrev dY:=@IntKind.wrap_u64
abbrev vV:=@Lib.run_append_own_string
abbrev oR:=@List.Pairwise.sublist
abbrev sL:=@List.Perm.append_left
abbrev pA:=@List.Perm.refl
abbrev kK:=@List.Sublist.refl
abbrev nM:=@List.any_eq_true
abbrev cw:=@List.append_assoc
abbrev gC:=@List.append_eq_nil_iff
abbrev ud:=@List.append_inj
abbrev eu:=@List.append_nil
abbrev ve:=@List.append_of_mem
abbrev fH:=@List.append_toArray
abbrev zi:=@List.concat_eq_append
abbrev iM:=@List.cons.injEq
abbrev dt:=@List.cons_append
abbrev dm:=@List.drop_eq_getElem_cons
abbrev rQ:=@List.drop_eq_nil_of_le
abbrev pz:=@List.drop_left
abbrev li:=@List.drop_length
abbrev mW:=@List.drop_sublist
abbrev bG:=@List.eq_nil_of_length_eq_zero
abbrev zh:=@List.eq_nil_or_concat
abbrev xz:=@List.eraseIdx_cons_succ
abbrev wi:=@List.ext_getElem?
abbrev mB:=@List.filter_append
abbrev wh:=@List.filter_congr
abbrev qY:=@List.filter_cons_of_neg
abbrev xy:=@List.filter_cons_of_pos
abbrev oq:=@List.filter_eq_nil_iff
abbrev nF:=@List.filter_eq_self
abbrev uo:=@List.filter_sublist
abbrev gS:=@List.flatMap_append
abbrev dR:=@List.flatMap_cons
abbrev xw:=@List.flatMap_map
abbrev lW:=@List.flatten_append
abbrev di:=@List.flatten_cons
abbrev jF:=@List.flatten_nil
abbrev jS:=@List.foldl_append
abbrev yW:=@List.foldl_cons
abbrev uZ:=@List.getD_eq_getElem?_getD
abbrev iu:=@List.getElem?_append_left
abbrev fQ:=@List.getElem?_append_right
abbrev qX:=@List.getElem?_cons_succ
abbrev bF:=@List.getElem?_eq_getElem
abbrev mI:=@List.getElem?_eq_none
abbrev ir:=@List.getElem?_eq_some_iff
abbrev fP:=@List.getElem?_map
abbrev fJ:=@List.getElem?_set_ne
abbrev xZ:=@List.getElem?_set_self
abbrev jm:=@List.getElem?_set_self'
abbrev qL:=@List.getElem?_take
abbrev qx:=@List.getElem?_take_of_lt
abbrev um:=@List.getElem_append
abbrev wF:=@List.getElem_append_left
abbrev mO:=@List.getElem_append_right
abbrev mh:=@List.getElem_cons_drop
abbrev cF:=@List.getElem_cons_succ
abbrev cO:=@List.getElem_cons_zero
abbrev rP:=@List.getElem_drop
abbrev mw:=@List.getElem_map
abbrev aB:=@List.getElem_mem
abbrev dJ:=@List.getElem_of_mem
abbrev nL:=@List.getElem_set
abbrev sK:=@List.getElem_set_self
abbrev oY:=@List.getElem_take
abbrev dl:=@List.getElem_toArray
abbrev ai:=@List.length_append
abbrev bK:=@List.length_cons
abbrev iZ:=@List.length_drop
abbrev xu:=@List.length_eq_zero_iff
abbrev gN:=@List.length_filter_le
abbrev ul:=@List.length_flatten
abbrev cS:=@List.length_map
abbrev eE:=@List.length_nil
abbrev ja:=@List.length_pos_iff
abbrev gA:=@List.length_set
abbrev dX:=@List.length_take
abbrev uk:=@List.length_take_le
abbrev bz:=@List.map_append
abbrev qh:=@List.map_congr_left
abbrev bO:=@List.map_cons
abbrev jz:=@List.map_eq_append_iff
abbrev py:=@List.map_eq_cons_iff
abbrev wg:=@List.map_id
abbrev uY:=@List.map_inj_right
abbrev iW:=@List.map_map
abbrev gB:=@List.map_nil
abbrev xq:=@List.map_reverse
abbrev uw:=@List.map_set
abbrev aP:=@List.mem_append
abbrev gY:=@List.mem_append_left
abbrev oQ:=@List.mem_append_right
abbrev dy:=@List.mem_cons
abbrev iA:=@List.mem_cons_of_mem
abbrev iV:=@List.mem_cons_self
abbrev lR:=@List.mem_filter
abbrev pV:=@List.mem_flatMap
abbrev dO:=@List.mem_flatten
abbrev lH:=@List.mem_iff_getElem
abbrev cC:=@List.mem_map
abbrev uj:=@List.mem_map_of_mem
abbrev iz:=@List.mem_of_getElem?
abbrev mV:=@List.mem_of_mem_drop
abbrev iy:=@List.mem_of_mem_take
abbrev jM:=@List.mem_or_eq_of_mem_set
abbrev zn:=@List.mem_range
abbrev pU:=@List.mem_reverse
abbrev bY:=@List.mem_singleton
abbrev sJ:=@List.modify_succ_cons
abbrev sI:=@List.modify_zero_cons
abbrev uX:=@List.ne_nil_of_mem
abbrev ep:=@List.nil_append
abbrev rO:=@List.nodup_append
abbrev kR:=@List.nodup_cons
abbrev lh:=@List.not_mem_nil
abbrev eH:=@List.pairwise_append
abbrev dp:=@List.pairwise_cons
abbrev sH:=@List.pairwise_flatten
abbrev cW:=@List.pairwise_iff_getElem
abbrev nJ:=@List.pairwise_singleton
abbrev xp:=@List.perm_middle
abbrev qK:=@List.prefix_append
abbrev iw:=@List.prefix_append_right_inj
abbrev sS:=@List.prefix_refl
abbrev gq:=@List.push_toArray
abbrev yV:=@List.range_succ
abbrev we:=@List.reverse_cons
abbrev dC:=@List.setIfInBounds_toArray
abbrev iJ:=@List.set_append_right
abbrev eO:=@List.set_cons_succ
abbrev eZ:=@List.set_cons_zero
abbrev kC:=@List.set_eq_take_append_cons_drop
abbrev mH:=@List.singleton_append
abbrev gp:=@List.size_toArray
abbrev mM:=@List.sublist_append_right
abbrev eC:=@List.sublist_flatten_of_mem
abbrev eY:=@List.sum_append
abbrev ft:=@List.sum_cons
abbrev du:=@List.take_append_drop
abbrev jR:=@List.take_append_of_le_length
abbrev rN:=@List.take_left
abbrev mS:=@List.take_left'
abbrev cQ:=@List.take_length
abbrev fB:=@List.take_of_length_le
abbrev rM:=@List.take_sublist
abbrev ui:=@List.take_succ_cons
abbrev aG:=@List.take_succ_eq_append_getElem
abbrev zm:=@List.take_take
abbrev qJ:=@MapKept.heap_alloc
abbrev ib:=@MapKept.heap_set
abbrev fT:=@MapKept.run_checkKey
abbrev fR:=@MapKept.run_findKey
abbrev kJ:=@MapKept.run_getObj_map
abbrev qw:=@MapKept.run_keyThatStays
abbrev gV:=@MapKept.run_setObj_map
abbrev sG:=@MapKept.stamped_empty
abbrev zg:=@MapKept.stamped_erase
abbrev rL:=@MapKept.stamped_modify
abbrev tI:=@MapKept.stamped_push
abbrev bJ:=@Nat.add_assoc
abbrev Ck:=@Nat.add_comm
abbrev xg:=@Nat.add_sub_cancel_left
abbrev mf:=@Nat.add_zero
abbrev fO:=@Nat.eq_zero_or_pos
abbrev xe:=@Nat.le_add_right
abbrev aq:=@Nat.le_refl
abbrev qW:=@Nat.le_succ
abbrev aR:=@Nat.le_trans
abbrev tj:=@Nat.lt_irrefl
abbrev au:=@Nat.lt_of_lt_of_le
abbrev oo:=@Nat.lt_or_eq_of_le
abbrev iU:=@Nat.lt_or_ge
abbrev mU:=@Nat.lt_trichotomy
abbrev yU:=@Nat.min_eq_left
abbrev ol:=@Nat.mod_lt
abbrev tH:=@Nat.mul_one
abbrev yT:=@Nat.not_lt_zero
abbrev xY:=@Nat.sub_self
abbrev wZ:=@Nat.succ_le_succ
abbrev Cj:=@Nat.succ_mul
abbrev ez:=@Nat.zero_add
abbrev bQ:=@Nat.zero_le
abbrev xX:=@Nat.zero_mul
abbrev FA:=@Ne.symm
abbrev sR:=@Option.getD_none
abbrev lf:=@Option.getD_some
abbrev rK:=@Option.map_eq_some_iff
abbrev uW:=@Option.ne_none_iff_exists'
abbrev iL:=@Option.some.inj
abbrev wa:=@Option.some.injEq
abbrev jt:=@Prod.mk.injEq
abbrev kI:=@Result.andThen_ok
abbrev jy:=@Sem.run_bind
abbrev rJ:=@Sem.run_pure
abbrev ae:=Value
abbrev Z:=World
abbrev cA:=@World.block_lt_of_cell?
abbrev tG:=@World.cell?_alloc_at
abbrev fa:=@World.cell?_alloc_lt
abbrev rI:=@World.cell?_alloc_past
abbrev cL:=@World.cell?_drew
abbrev dZ:=@World.cell?_of_block
abbrev pZ:=@World.cell?_setCell_same'
abbrev eR:=@World.grownBy_alloc
abbrev bC:=@World.ownsRow.alloc
abbrev qI:=@World.ownsRow.kept
abbrev aS:=@World.ownsRow.lt
abbrev tF:=@World.ownsRow.stored
abbrev ct:=@World.ownsRow_nil
abbrev yS:=@World.var?_cell
abbrev rH:=@and_true
abbrev nE:=@beq_eq_false_iff_ne
abbrev Bp:=@bne_iff_ne
abbrev xW:=@bodyPost_end
abbrev ci:=@bodyPost_ret
abbrev th:=@callsIn_of_wp
abbrev ew:=@callsIn_wide
abbrev rG:=@cell_one_new
abbrev cD:=@congrArg
abbrev yR:=@decide_eq_false
abbrev uV:=@decide_eq_true
abbrev rF:=@decide_eq_true_eq
abbrev Ci:=@decide_false
abbrev zl:=@decide_true
abbrev Ay:=@dif_pos
abbrev uU:=@grownCap_le_maxLen
abbrev uT:=@growslice_fits
abbrev jp:=@heap_alloc_new
abbrev mA:=@if_false
abbrev fN:=@if_neg
abbrev fW:=@if_pos
abbrev mT:=@if_true
abbrev cZ:=@info_parts
abbrev Ax:=@mem_ready
abbrev lK:=@of_decide_eq_true
abbrev Ch:=@okWide_slice
abbrev uS:=@or_false
abbrev uR:=@ready_mono
abbrev jc:=@results_none
abbrev gH:=@results_tmp
abbrev jx:=@results_tmp2
abbrev lA:=@results_tmp3
abbrev io:=@rounds_succ
abbrev oX:=@run_append_own_at
abbrev zf:=@run_append_owned_none
abbrev fG:=@run_callFunc_extern
abbrev xV:=@run_convert_bytes_back
abbrev kQ:=@run_loadVar_row
abbrev tE:=@run_makeMap
abbrev Dt:=@run_store
abbrev eV:=@run_underlying
abbrev vZ:=@setRow_heap
abbrev uv:=@setRow_other
abbrev Aw:=@wpIn_wide
abbrev zk:=@wpListIn_plain
abbrev kg:=@wpList_make_own
abbrev lz:=@wpList_plain
abbrev wY:=@wpOp_mono
abbrev iX:=@wp_loop_rounds
abbrev Bd:=@wp_region_any
variable{a e P:Z}{b c:R}{d w:ae}{B:af}{K:Prop}
def U{p:Prop}(h:p:=by omega):p:=h
def aH{p:Prop}(h:p:=by kernel_rfl):p:=h
def ar{p:Prop}(h:p:=by simp):p:=h
def aI(h:K:=by grind):K:=h
def cg{p:Prop}(h:p:=by decide):p:=h
def dM{p:Prop}(h:p:=by go_num):p:=h
def dW{p:Prop}(h:p:=by simp;omega):p:=h
def sO(h:K:=by simp_all):K:=h
def bP{p a:Prop}(c:a)(h:a->p:=by omega):p:=h c
def dV{p q:Prop}(a:q)(h:q->p:=by intro h;simpa using h):p:=h a
def gW{p a c:Prop}(d:a)(b:c)(h:a->c->p:=by omega):p:=h d b
def Lu{a b c:Prop}(d:a)(e:b)(f:c)(h:a->b->c->K:=by omega):K:=h d e f
def zZ{a:Prop}(b:a)(h:a->K:=by grind):K:=h b
def zed{a b:Prop}(c:a)(d:b)(h:a->b->K:=by grind):K:=h c d
def oh{α:Type}(a:α):∃b,a=b:=⟨_,rfl⟩
abbrev fC:=R->Prop
abbrev iF:=cy ae
abbrev eD:=cy Y
abbrev X(b i:R):Addr:=⟨b,i,dE⟩
abbrev aJ(b:R):ae:=.pointer<|M ⟨b,0,dE⟩
abbrev bX(b i n c:R):ae:=.slice (M ⟨b,i,dE⟩) n c
abbrev aF:ae:=.slice dE 0 0
abbrev aC{α:Type}:α->Prop:=λ_=>False
abbrev ay:=Value.int .i64
abbrev bw:=Value.int .u64
abbrev eI:=Value.int .u32
abbrev sC:=Value.int .u8
abbrev iD:=Value.int .i32
abbrev aK:=@Obj.cells
abbrev aN:=@Ending.returned
def ak{p:Prop}(h:p):Hid p:=h
theorem ag{p:Prop}(h:Hid p):p:=h
def cY{α:Type}{p:α->Prop}(k:α)(h:aC k):p k:=h.elim
def wP{α β γ:Type}{p:α->β->γ->Prop}(a:α)(b:β)(c:γ)(h:p a b c):p a b c:=h
def wX{α:Type}{a:α}(h:a≠a):K:=(h rfl).elim
def eU{a b c:Prop}(d:a)(e:b)(g:c):Hid a/\Hid b/\Hid c:=⟨d,e,g⟩
def js{a b c d:Prop}(e:a)(g:b)(h:c)(i:d):Hid a/\Hid b/\Hid c/\Hid d:=⟨e,g,h,i⟩
def oa{a b c d:Prop}(e:K)(g:a)(h:b)(i:c)(j:d):Hid K/\Hid a/\Hid b/\Hid c/\Hid d:=⟨e,g,h,i,j⟩
def nU{a b c d e:Prop}(f:K)(g:a)(h:b)(i:c)(j:d)(k:e):Hid K/\Hid a/\Hid b/\Hid c/\Hid d/\Hid e:=⟨f,g,h,i,j,k⟩
def zY{a b c d e g:Prop}(h:K)(i:a)(j:b)(k:c)(l:d)(m:e)(n:g):Hid K/\Hid a/\Hid b/\Hid c/\Hid d/\Hid e/\Hid g:=⟨h,i,j,k,l,m,n⟩
def Zt{a b c d e f g:Prop}(h:K)(i:a)(j:b)(k:c)(l:d)(m:e)(n:f)(o:g):Hid K/\Hid a/\Hid b/\Hid c/\Hid d/\Hid e/\Hid f/\Hid g:=⟨h,i,j,k,l,m,n,o⟩
def Hp{a b c d e f g h i:Prop}(j:a)(k:b)(l:c)(m:d)(n:e)(o:f)(p:g)(q:h)(r:i):Hid a/\Hid b/\Hid c/\Hid d/\Hid e/\Hid f/\Hid g/\Hid h/\Hid i:=⟨j,k,l,m,n,o,p,q,r⟩
structure fo(w w':Z)(v v':ae):Prop where
 dF:w.grownBy w' (cN v)
 f:cN v'=cN v\/∃g,cN v'=M g/\G (H w)<=g
theorem fo.bI(w:Z)(v:ae):fo w w v v:=⟨⟨rfl,rfl,rfl,aq _,λ_ _ _=>rfl⟩,J rfl⟩
def fo.aj{i b j:Z}{v x:ae}(h:fo i b d v)(k:fo b j v x):fo i j d x:=by
 refine⟨⟨k.dF.os.trans h.dF.os,k.dF.tape.trans h.dF.tape,k.dF.output.trans h.dF.output,aR h.dF.size k.dF.size,λm a g=>?_⟩,?_⟩;refine(k.dF.block m (au a h.dF.size) ?_).trans<|h.dF.block m a g;grind[fo.f]
 obtain e|⟨n,e,c⟩:=k.f;rw[e];exact h.f;exact bu ⟨n,e,aR h.dF.size c⟩
def fo.aE{v:ae}(o:Obj)(h:fo (a.alloc o) e d v):fo a e d v:=by
 refine⟨(eR a o<|cN d).trans h.dF,?_⟩;obtain b|⟨g,b,c⟩:=h.f;exact J b;exact bu ⟨g,b,by simp at c;omega⟩
def fo.dD(h:fo a e d w){B:R}(b:B<=G (H a))(c:∀k,cN d=M k->B<=k):gD B a e:=(Below.refl B a).grown h.dF b c
def fo.of{w b:Z}{a:ae}(h:w.grownBy b (cN d))(c:cN a=cN d\/cN a=M (G<|H w)):fo w b d a:=⟨h,aI⟩
def En{P:Program}{F u p v:TypeId}{x:TypeInfo}(r:P.underlying F=M (.slice v))(s:P.underlying u=M .string)(q:P.info? v=M x)(E:x.zero=M (sC 0))(f:x.size=1)(k:x.bytes=1){t:cy ae}(i:fE a b v 1 d c t)(h:c+B.size<=140737488355328)(m:(Builtin.append_ #[F,u] p #[d,aw B]).run P a=.ok w e):cN w=cN d\/cN w=M (G<|H a):=by
 obtain⟨rfl,rfl⟩|⟨K,g,o,rfl,L,O,Q,N,A,C⟩:=i.2;by_cases n:B.size=0;(let⟨S,l,j,_,_,D⟩:=vV (P:=P) a 0 F u p v x r s q E f k aF 0 [] (ct a 0 v 1) B aI h<|bQ _;rw[j]at m;grind);have j:=run_append_nil_string (P:=P) a F u p v x (sC 0) r s q E B U U (by rw[k];omega);rw[j]at m;cases m;exact bu z;by_cases n:c+B.size<=g;have:o.size=g:=dV A;have j:=Lib.run_append_room_string (P:=P) a F u p v x r s q f K c g o O B n U;rw[j]at m;cases m;exact J z;have l:∀j u,t[j]?=M u->bA a (((X K 0):Addr).add j)=M u:=i.cells (g:=K) z;have D:y t=c:=aI;have j:=Lib.run_append_grow_string (P:=P) a F u p v x (sC 0) r s q E (X K 0) c g t (by rw[f];simpa using D) l B U U<|k▸uT U U;rw[j]at m;cases m;exact bu z
def vh{P:Program}(A:Z){g:Array Oper}{d:cy Oper}{v:Oper}{B:Act}{T:Exit->Act->Z->Prop}(m:v.guard=dE)(x V:Operand)(Q S:TypeId)(L:v.op=.call {callee:=.builtin .append,args:=#[x,V],argTypes:=#[Q,S]})(k:R)(o:TypeId)(u:TypeInfo)(r:P.underlying Q=M (.slice o))(s:P.underlying S=M .string)(p:P.info? o=M u)(t:u.zero=M (sC 0))(b:u.size=1)(f:u.bytes=1)(D:ae)(C:R)(n:cy ae)(N:B.eval x=D)(c:fE A k o 1 D C n)(w:af)(O:B.eval V=aw w)(a:C+w.size<=140737488355328)(e:k<=G (H A))(h:∀i j,fE j k o 1 i (C+w.size) (n++Lib.strCells w)->fo A j D i->wpList P g T d (B.put v.dst i) j):wpList P g T (v::d) B A:=by
 refine lz m λW K=>?_;let⟨i,j,q,E,F,_⟩:=vV (P:=P) A k Q S v.type o u r s p t b f D C n c w (by unfold maxLen;omega) a e;have l:=En r s p t b f c a q;unfold Oper.wp execOp;simp only[L,resolve,invoke,builtin,jy,rJ,kI,List.map_toArray,bO,gB,N,O,q];exact K _ _<|h i j E<|fo.of F l
def cq{P:Program}(w:Z){i:Array Oper}{rest:cy Oper}{A:Oper}{x:Act}{ac:Exit->Act->Z->Prop}(o:A.guard=dE)(aa ab:Operand)(B:TypeId)(S:A.op=.call {callee:=.builtin .append,args:=#[aa,ab],argTypes:=#[B,B]})(k:R)(t:TypeId)(u:TypeInfo)(m9:ae)(a bytes:R)(W:P.underlying B=M (.slice t))(O:P.info? t=M u)(hz:u.zero=M m9)(f:u.size=a)(n:u.bytes=bytes)(q:m9.cells.size=a)(p:0<a)(D:ae)(v:R)(r:cy ae)(V:x.eval aa=D)(g:fE w k t a D v r)(m:Addr)(s ad:R)(b:cy ae)(hx:x.eval ab=am (M m) s ad)(Q:y b=s*a)(e:∀al C,b[al]?=M C->bA w (m.add al)=M C)(E:∀C∈b,C.oneCell'=cz)(hn:v+s<=140737488355328)(c:(v+s)*bytes<=140737488355328)(d:k<=G (H w))(h:∀j w',fE w' k t a j (v+s) (r++b)->fo w w' D j->wpList P i ac rest (x.put A.dst j) w'):wpList P i ac (A::rest) x w:=wpList_append_own_at w o aa ab B S k t u m9 a bytes W O hz f n q p D v r V g m s ad b hx Q e E (by unfold maxLen;omega) c d λj w' K L _ N=>h j w' K<|fo.of L N
def Aa{b:Option R}(h:a.grownBy e b)(k:e.grownBy P b):a.grownBy P b:=h.trans k
def aY{w:Z}{c i:R}{u:ae}{a:Array ae}{t:TypeId}{b:R×R}(h:w.heap[c]?=M (aK a t b)):(cP w (X c i) u).heap[c]?=M (aK (a.setIfInBounds i u) t b):=by
 simp only[World.setCell,sN,h];simp
def eG(w:Z)(b i:R)(u:ae):w.grownBy (cP w (X b i) u) (M b):=⟨z,z,z,sO,λk _ a=>Below.heap_setCell w (X b i) u k<|λe=>a<|by rw[e]⟩
def vG(w:Z)(a:Option R):w.grownBy w a:=⟨rfl,rfl,rfl,aq _,λ_ _ _=>rfl⟩
theorem cE{b i:R}{c:Array ae}{t:TypeId}{d:R×R}(h:a.heap[b]?=M (aK c t d)):bA a (X b i)=c[i]?:=by simp[World.cell?,h]
def aX{w:Z}{a:Array ae}{t:TypeId}{c:R×R}(h:w.heap[b]?=M (.cells a t c))(i:R)(e:a.toList[i]?=M d:=by rfl):bA w (X b i)=M d:=by rw[cE h,<-e];simp
def cV{c i:R}{b:Array ae}{t:TypeId}(h:a.heap[c]?=M (aK b t (0,0))):iI a (X c i)=bD:=by simp[World.frozen?,h]
def gQ{o:Obj}(h:b<G (H a)):bA (dw a o) (X b c)=bA a (X b c):=dZ (w:=a)<|Below.heap_alloc a o b h
def _root_.Go.RowKit.Below.of_heap(h:gD b a e)(c:(P.os,P.tape,P.output,P.heap)=(e.os,e.tape,e.output,e.heap)):gD b a P:=by
 simp only[jt]at c;exact⟨c.1.trans h.os,c.2.1.trans h.tape,c.2.2.1.trans h.output,c.2.2.2▸h.size,λk d=>c.2.2.2▸h.block k d⟩
theorem az{w:Z}{b:R}{o:Obj}(h:w.heap[b]?=M o):b<G (H w):=by
 by_cases a:b<G (H w);exact a;grind
