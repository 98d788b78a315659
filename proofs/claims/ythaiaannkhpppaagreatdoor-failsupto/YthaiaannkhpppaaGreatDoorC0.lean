import Derived.Lib.AppendStr
import Derived.Maps.AppendAt
import Derived.ProofKit
import Derived.WalkKit
open _root_ renaming List.length→y,Option.some→H,Array.size→z,Go.World.heap→G,Go.Value.ownBlock→cK,Go.World.cell?→aW,Go.World.setCell→cq,Go.World.alloc→cN,Bool.false→aX,Bool.true→ci,Nat→M,Int→X,List→cJ,Go.Value.slice→I,Go.Value.string→am
namespace Go.Proofs.YthaiaannkhpppaaGreatDoor
open ChangeShapes WideShapes RowKit List
set_option maxHeartbeats 16000000
set_option linter.all false
set_option maxRecDepth 100000

abbrev dB:=@Addr.add_lit
abbrev tz:=@Array.getElem?_append_left
abbrev uf:=@Array.getElem?_eq_getElem
abbrev kJ:=@Array.getElem?_eq_none
abbrev nI:=@Array.getElem?_eq_some_iff
abbrev qB:=@Array.getElem?_modify
abbrev wZ:=@Array.getElem?_toList
abbrev lR:=@Array.length_toList
abbrev eM:=@Array.replicate_succ
abbrev eL:=@Array.replicate_zero
abbrev uQ:=@Array.setIfInBounds_comm
abbrev nH:=@Array.size_replicate
abbrev sq:=@Array.toList_append
abbrev lV:=@Bool.and_eq_true
abbrev uP:=@Bool.and_self
abbrev xG:=@Bool.false_and
abbrev tw:=@Bool.false_eq_true
abbrev zk:=@Bool.false_or
abbrev nG:=@Bool.not_false
abbrev uO:=@Bool.not_true
abbrev ae:=ByteArray
abbrev la:=@ByteArray.size_append
abbrev so:=@ByteArray.toList_eq
abbrev zx:=@Calls.mono
abbrev pV:=@DataW.trod_int
abbrev nu:=@Function.comp_def
abbrev qY:=@Iff.rfl
abbrev vB:=@Int.eq_ofNat_of_zero_le
abbrev sE:=@Int.le_trans
abbrev An:=@Int.pow_succ
abbrev bN:=@IntKind.wrap_i64
abbrev gH:=@IntKind.wrap_u64
abbrev ue:=@Lib.run_append_own_string
abbrev kZ:=@List.Pairwise.sublist
abbrev qA:=@List.Perm.append_left
abbrev vX:=@List.Perm.append_right
abbrev lU:=@List.Perm.refl
abbrev pU:=@List.Sublist.length_le
abbrev pT:=@List.Sublist.refl
abbrev qI:=@List.all_eq_true
abbrev ol:=@List.any_eq_true
abbrev bA:=@List.append_assoc
abbrev tv:=@List.append_cancel_left_eq
abbrev mB:=@List.append_eq_nil_iff
abbrev mz:=@List.append_inj_right'
abbrev dM:=@List.append_nil
abbrev tu:=@List.append_of_mem
abbrev eX:=@List.append_toArray
abbrev mP:=@List.cons.injEq
abbrev df:=@List.cons_append
abbrev ng:=@List.cons_prefix_cons
abbrev bG:=@List.drop_eq_getElem_cons
abbrev vW:=@List.drop_eq_nil_of_le
abbrev tr:=@List.drop_left
abbrev gv:=@List.drop_length
abbrev kj:=@List.drop_sublist
abbrev aL:=@List.eq_nil_of_length_eq_zero
abbrev wY:=@List.eq_nil_or_concat
abbrev pS:=@List.exists_of_findSome?_eq_some
abbrev ut:=@List.ext_getElem?
abbrev kU:=@List.filter_append
abbrev ur:=@List.filter_congr
abbrev ft:=@List.filter_cons_of_neg
abbrev ir:=@List.filter_cons_of_pos
abbrev gS:=@List.filter_eq_nil_iff
abbrev gm:=@List.filter_eq_self
abbrev eW:=@List.filter_sublist
abbrev my:=@List.find?_eq_none
abbrev wP:=@List.find?_some
abbrev fG:=@List.flatMap_append
abbrev dU:=@List.flatMap_cons
abbrev vA:=@List.flatMap_nil
abbrev eH:=@List.flatten_append
abbrev bK:=@List.flatten_cons
abbrev iK:=@List.flatten_nil
abbrev gK:=@List.foldl_append
abbrev iF:=@List.foldl_cons
abbrev tq:=@List.getD_eq_getElem?_getD
abbrev gp:=@List.getElem?_append_left
abbrev eU:=@List.getElem?_append_right
abbrev vz:=@List.getElem?_cons_succ
abbrev aQ:=@List.getElem?_eq_getElem
abbrev qz:=@List.getElem?_eq_none
abbrev jy:=@List.getElem?_eq_some_iff
abbrev fq:=@List.getElem?_map
abbrev gw:=@List.getElem?_set_ne
abbrev iq:=@List.getElem?_set_self'
abbrev oS:=@List.getElem?_take
abbrev oJ:=@List.getElem?_take_of_lt
abbrev uN:=@List.getElem_append_left
abbrev ud:=@List.getElem_append_right
abbrev kI:=@List.getElem_cons_drop
abbrev cD:=@List.getElem_cons_succ
abbrev cI:=@List.getElem_cons_zero
abbrev pR:=@List.getElem_drop
abbrev kQ:=@List.getElem_map
abbrev aq:=@List.getElem_mem
abbrev dY:=@List.getElem_of_mem
abbrev lT:=@List.getElem_set
abbrev qy:=@List.getElem_set_self
abbrev ly:=@List.getElem_take
abbrev de:=@List.getElem_toArray
abbrev qH:=@List.isEmpty_nil
abbrev af:=@List.length_append
abbrev aY:=@List.length_cons
abbrev jc:=@List.length_drop
abbrev ep:=@List.length_filter_le
abbrev sk:=@List.length_flatten
abbrev dj:=@List.length_map
abbrev dG:=@List.length_nil
abbrev gl:=@List.length_pos_iff
abbrev iE:=@List.length_set
abbrev dO:=@List.length_take
abbrev sj:=@List.length_take_le
abbrev aP:=@List.map_append
abbrev oB:=@List.map_congr_left
abbrev cy:=@List.map_cons
abbrev iJ:=@List.map_eq_append_iff
abbrev nF:=@List.map_eq_cons_iff
abbrev xF:=@List.map_id
abbrev tj:=@List.map_inj_right
abbrev gG:=@List.map_map
abbrev gR:=@List.map_nil
abbrev vy:=@List.map_reverse
abbrev sD:=@List.map_set
abbrev uM:=@List.map_take
abbrev aG:=@List.mem_append
abbrev jb:=@List.mem_append_left
abbrev kY:=@List.mem_append_right
abbrev bJ:=@List.mem_cons
abbrev du:=@List.mem_cons_of_mem
abbrev kT:=@List.mem_cons_self
abbrev dL:=@List.mem_filter
abbrev lS:=@List.mem_flatMap
abbrev bC:=@List.mem_flatten
abbrev gO:=@List.mem_iff_getElem
abbrev bR:=@List.mem_map
abbrev oA:=@List.mem_map_of_mem
abbrev li:=@List.mem_of_find?_eq_some
abbrev eK:=@List.mem_of_getElem?
abbrev dQ:=@List.mem_of_mem_drop
abbrev dZ:=@List.mem_of_mem_take
abbrev jY:=@List.mem_range
abbrev qG:=@List.mem_reverse
abbrev dp:=@List.mem_singleton
abbrev wX:=@List.modify_succ_cons
abbrev wW:=@List.modify_zero_cons
abbrev cV:=@List.nil_append
abbrev jm:=@List.nodup_append
abbrev iD:=@List.nodup_cons
abbrev gu:=@List.not_mem_nil
abbrev bQ:=@List.pairwise_append
abbrev bB:=@List.pairwise_cons
abbrev cU:=@List.pairwise_iff_getElem
abbrev ki:=@List.pairwise_map
abbrev qx:=@List.perm_append_comm
abbrev vu:=@List.perm_middle
abbrev rX:=@List.prefix_append_right_inj
abbrev qF:=@List.prefix_refl
abbrev fp:=@List.push_toArray
abbrev uq:=@List.reverse_cons
abbrev uo:=@List.reverse_perm
abbrev dd:=@List.setIfInBounds_toArray
abbrev gD:=@List.set_append_right
abbrev dX:=@List.set_cons_succ
abbrev eG:=@List.set_cons_zero
abbrev jg:=@List.set_eq_take_append_cons_drop
abbrev jF:=@List.singleton_append
abbrev vV:=@List.singleton_sublist
abbrev fo:=@List.size_toArray
abbrev oI:=@List.sublist_append_left
abbrev gQ:=@List.sublist_append_right
abbrev dl:=@List.sublist_flatten_of_mem
abbrev fw:=@List.sum_append
abbrev zj:=@List.sum_cons
abbrev bV:=@List.take_append_drop
abbrev mr:=@List.take_append_of_le_length
abbrev kS:=@List.take_left
abbrev oQ:=@List.take_left'
abbrev bI:=@List.take_length
abbrev eT:=@List.take_of_length_le
abbrev nt:=@List.take_sublist
abbrev si:=@List.take_succ_cons
abbrev ai:=@List.take_succ_eq_append_getElem
abbrev xE:=@List.take_take
abbrev xD:=@List.take_zero
abbrev oR:=@MapKept.heap_alloc
abbrev iI:=@MapKept.heap_set
abbrev iy:=@MapKept.run_checkKey
abbrev ig:=@MapKept.run_findKey
abbrev pQ:=@MapKept.run_getObj_map
abbrev uL:=@MapKept.run_keyThatStays
abbrev jl:=@MapKept.run_setObj_map
abbrev qw:=@MapKept.stamped_empty
abbrev vU:=@MapKept.stamped_modify
abbrev bw:=@Nat.add_assoc
abbrev Am:=@Nat.add_comm
abbrev xC:=@Nat.add_mul
abbrev vt:=@Nat.add_sub_cancel_left
abbrev kH:=@Nat.add_zero
abbrev gB:=@Nat.eq_zero_or_pos
abbrev Al:=@Nat.le_of_eq
abbrev ah:=@Nat.le_refl
abbrev aC:=@Nat.le_trans
abbrev kP:=@Nat.lt_irrefl
abbrev ag:=@Nat.lt_of_lt_of_le
abbrev mw:=@Nat.lt_or_eq_of_le
abbrev ik:=@Nat.lt_or_ge
abbrev uK:=@Nat.lt_succ_iff_lt_or_eq
abbrev nr:=@Nat.lt_trichotomy
abbrev wO:=@Nat.min_eq_left
abbrev rC:=@Nat.mul_le_mul_right
abbrev rB:=@Nat.mul_one
abbrev Ak:=@Nat.ne_of_lt
abbrev gq:=@Nat.not_lt_zero
abbrev Aj:=@Nat.sub_self
abbrev dE:=@Nat.zero_add
abbrev bP:=@Nat.zero_le
abbrev Ai:=@Nat.zero_mul
abbrev oh:=@Option.getD_some
abbrev pP:=@Option.map_eq_some_iff
abbrev jk:=@Option.none_or
abbrev th:=@Option.or_none
abbrev gY:=@Option.some.inj
abbrev um:=@Option.some.injEq
abbrev ib:=@Prod.mk.injEq
abbrev np:=@Result.andThen_ok
abbrev jV:=@Sem.run_bind
abbrev vT:=@Sem.run_pure
abbrev ab:=Value
abbrev tg:=@Value.string.injEq
abbrev Y:=World
abbrev cC:=@World.block_lt_of_cell?
abbrev rA:=@World.cell?_alloc_at
abbrev bH:=@World.cell?_alloc_lt
abbrev pO:=@World.cell?_alloc_past
abbrev bF:=@World.cell?_drew
abbrev dt:=@World.cell?_of_block
abbrev ov:=@World.cell?_setCell_same'
abbrev eJ:=@World.frozen?_alloc_old
abbrev dD:=@World.grownBy_alloc
abbrev aT:=@World.ownsRow.alloc
abbrev bM:=@World.ownsRow.lt
abbrev cO:=@World.ownsRow_nil
abbrev vr:=@and_true
abbrev kE:=@beq_eq_false_iff_ne
abbrev zw:=@bne_iff_ne
abbrev vS:=@bodyPost_end
abbrev ct:=@bodyPost_ret
abbrev qX:=@callsIn_of_wp
abbrev dP:=@callsIn_wide
abbrev pN:=@cell_one_new
abbrev bS:=@congrArg
abbrev xB:=@decide_eq_true
abbrev pM:=@decide_eq_true_eq
abbrev Ah:=@decide_false
abbrev ul:=@decide_true
abbrev Ag:=@dif_pos
abbrev tf:=@growslice_fits
abbrev ix:=@heap_alloc_new
abbrev ru:=@if_false
abbrev dF:=@if_neg
abbrev dH:=@if_pos
abbrev nk:=@if_true
abbrev di:=@info_parts
abbrev gN:=@leaves_cons
abbrev yF:=@mem_ready
abbrev pL:=@of_decide_eq_true
abbrev mO:=@or_false
abbrev td:=@ready_mono
abbrev iX:=@results_none
abbrev iw:=@results_tmp
abbrev pK:=@results_tmp2
abbrev og:=@results_tmp3
abbrev gd:=@rounds_succ
abbrev nj:=@run_append_own_at
abbrev bX:=@run_callFunc_extern
abbrev vR:=@run_convert_bytes_back
abbrev ku:=@run_loadVar_row
abbrev rq:=@run_makeMap
abbrev Bu:=@run_store
abbrev fF:=@run_underlying
abbrev uk:=@setRow_heap
abbrev sC:=@setRow_other
abbrev sS:=@wpIn_wide
abbrev xA:=@wpListIn_plain
abbrev kr:=@wpList_make_own
abbrev lw:=@wpList_plain
abbrev yE:=@wpOp_mono
abbrev gX:=@wp_loop_rounds
abbrev zi:=@wp_region_any
abbrev eV:=M->Prop
abbrev gW:=cJ ab
abbrev eR:=cJ X
abbrev R(b i:M):Addr:=⟨b,i,none⟩
abbrev aA(b:M):ab:=.pointer<|H ⟨b,0,none⟩
abbrev bD(b i n c:M):ab:=.slice (H ⟨b,i,none⟩) n c
abbrev az:ab:=.slice none 0 0
abbrev ay{α:Type}:α->Prop:=λ_=>False
abbrev ar:=Value.int .i64
abbrev aE:=Value.int .u64
abbrev dA:=Value.int .u32
abbrev rD:=Value.int .u8
abbrev jN:=Value.int .i32
abbrev aw:=@Obj.cells
abbrev aM:=@Ending.returned
variable{a f A:Y}{b c:M}{d s:ab}{t:ae}{Q:Prop}{V:Array ab}
def U{p:Prop}(h:p):Hid p:=h
theorem J{p:Prop}(h:Hid p):p:=h
def cL{α:Type}{p:α->Prop}(k:α)(h:ay k):p k:=h.elim
def lk{α β γ:Type}{p:α->β->γ->Prop}(a:α)(b:β)(c:γ)(h:p a b c):p a b c:=h
def FQ{α:Type}{a:α}(h:a≠a):Q:=(h rfl).elim
def dz{a c:Prop}(d:Q)(e:a)(g:c):Hid Q/\Hid a/\Hid c:=⟨d,e,g⟩
def fY{a b c:Prop}(d:Q)(e:a)(g:b)(h:c):Hid Q/\Hid a/\Hid b/\Hid c:=⟨d,e,g,h⟩
def iO{a b c d:Prop}(e:Q)(g:a)(h:b)(i:c)(j:d):Hid Q/\Hid a/\Hid b/\Hid c/\Hid d:=⟨e,g,h,i,j⟩
def lf{a c d e f:Prop}(g:Q)(h:a)(i:c)(j:d)(k:e)(l:f):Hid Q/\Hid a/\Hid c/\Hid d/\Hid e/\Hid f:=⟨g,h,i,j,k,l⟩
def zo{a b c d e g:Prop}(h:Q)(i:a)(j:b)(k:c)(l:d)(m:e)(n:g):Hid Q/\Hid a/\Hid b/\Hid c/\Hid d/\Hid e/\Hid g:=⟨h,i,j,k,l,m,n⟩
def CV{a b c d e f g:Prop}(h:Q)(i:a)(j:b)(k:c)(l:d)(m:e)(n:f)(o:g):Hid Q/\Hid a/\Hid b/\Hid c/\Hid d/\Hid e/\Hid f/\Hid g:=⟨h,i,j,k,l,m,n,o⟩
def yr{a b c d e f g h:Prop}(i:Q)(j:a)(k:b)(l:c)(m:d)(n:e)(o:f)(p:g)(q:h):Hid Q/\Hid a/\Hid b/\Hid c/\Hid d/\Hid e/\Hid f/\Hid g/\Hid h:=⟨i,j,k,l,m,n,o,p,q⟩
structure eE(w w':Y)(v v':ab):Prop where
 grown:w.grownBy w' (cK v)
 vp:cK v'=cK v\/∃g,cK v'=H g/\z (G w)<=g
theorem eE.refl(w:Y)(v:ab):eE w w v v:=⟨⟨rfl,rfl,rfl,ah _,λ_ _ _=>rfl⟩,.inl rfl⟩
def eE.trans{g b i:Y}{u v x:ab}(h:eE g b u v)(k:eE b i v x):eE g i u x:=by
 refine⟨⟨k.grown.os.trans h.grown.os,k.grown.tape.trans h.grown.tape,k.grown.output.trans h.grown.output,aC h.grown.size k.grown.size,λj a d=>?_⟩,?_⟩;refine(k.grown.block j (ag a h.grown.size) ?_).trans<|h.grown.block j a d;grind[eE.vp]
 rcases k.vp with e|⟨l,e,c⟩;rw[e];exact h.vp;exact .inr ⟨l,e,aC h.grown.size c⟩
def eE.alloc(o:Obj)(h:eE (a.alloc o) A d s):eE a A d s:=by
 refine⟨(dD a o<|cK d).trans h.grown,?_⟩;rcases h.vp with e|⟨g,e,b⟩;exact .inl e;exact .inr ⟨g,e,by simp at b;omega⟩
def eE.below(h:eE a f d s){B:M}(b:B<=z (G a))(c:∀k,cK d=H k->B<=k):Below B a f:=(Below.refl B a).grown h.grown b c
def eE.of(h:a.grownBy f (cK d))(b:cK s=cK d\/cK s=H (z<|G a)):eE a f d s:=⟨h,b.imp id λe=>⟨_,e,ah _⟩⟩
def Co{P:Program}{F v p x:TypeId}{A:TypeInfo}(r:P.underlying F=H (.slice x))(u:P.underlying v=H .string)(q:P.info? x=H A)(E:A.zero=H (rD 0))(e:A.size=1)(k:A.bytes=1){w:cJ ab}(i:a.ownsRow b x 1 d c w)(h:c+t.size<=140737488355328)(m:(Builtin.append_ #[F,v] p #[d,am t]).run P a=.ok s f):cK s=cK d\/cK s=H (z<|G a):=by
 rcases i.2 with⟨rfl,rfl⟩|⟨K,g,o,rfl,L,O,Q,N,B,C⟩;by_cases n:t.size=0;(obtain⟨S,l,j,_,_,D⟩:=ue (P:=P) a 0 F v p x A r u q E e k az 0 [] (cO a 0 x 1) t (by grind) h<|bP _;rw[j]at m;grind);have j:=run_append_nil_string (P:=P) a F v p x A (rD 0) r u q E t (by omega) (by omega) (by rw[k];omega);rw[j]at m;cases m;exact .inr rfl;by_cases n:c+t.size<=g;(have l:o.size=g:=by simpa using B);have j:=Lib.run_append_room_string (P:=P) a F v p x A r u q e K c g o O t n (by omega);rw[j]at m;cases m;exact .inl rfl;have l:∀j v,w[j]?=H v->aW a (((R K 0):Addr).add j)=H v:=i.cells (g:=K) rfl;(have D:y w=c:=by grind);have j:=Lib.run_append_grow_string (P:=P) a F v p x A (rD 0) r u q E (R K 0) c g w (by rw[e];simpa using D) l t (by omega) (by omega) (by rw[k];exact tf (by omega)<|by omega);rw[j]at m;cases m;exact .inr rfl
def tA{P:Program}(w:Y){g:Array Oper}{rest:cJ Oper}{t:Oper}{x:Act}{Q:Exit->Act->Y->Prop}(k:t.guard=none)(v S:Operand)(N O:TypeId)(F:t.op=.call {callee:=.builtin .append,args:=#[v,S],argTypes:=#[N,O]})(a:M)(m:TypeId)(s:TypeInfo)(p:P.underlying N=H (.slice m))(q:P.underlying O=H .string)(n:P.info? m=H s)(r:s.zero=H (rD 0))(c:s.size=1)(f:s.bytes=1)(B:ab)(A:M)(l:cJ ab)(K:x.eval v=B)(d:w.ownsRow a m 1 B A l)(u:ae)(L:x.eval S=am u)(b:A+u.size<=140737488355328)(e:a<=z (G w))(T:∀h i,i.ownsRow a m 1 h (A+u.size) (l++Lib.strCells u)->eE w i B h->wpList P g Q rest (x.put t.dst h) i):wpList P g Q (t::rest) x w:=by
 refine lw k λV E=>?_;obtain⟨h,i,o,C,D,_⟩:=ue (P:=P) w a N O t.type m s p q n r c f B A l d u (by unfold maxLen;omega) b e;have j:=Co p q n r c f d b o;unfold Oper.wp execOp;simp only[F,resolve,invoke,builtin,jV,vT,np,List.map_toArray,cy,gR,K,L,o];exact E _ _<|T h i C<|eE.of D j
def cA{P:Program}(w:Y){j:Array Oper}{rest:cJ Oper}{x:Oper}{v:Act}{ad:Exit->Act->Y->Prop}(n:x.guard=none)(aa ac:Operand)(A:TypeId)(Q:x.op=.call {callee:=.builtin .append,args:=#[aa,ac],argTypes:=#[A,A]})(a:M)(s:TypeId)(t:TypeInfo)(h:ab)(b bytes:M)(V:P.underlying A=H (.slice s))(N:P.info? s=H t)(hz:t.zero=H h)(g:t.size=b)(m:t.bytes=bytes)(p:h.cells.size=b)(o:0<b)(C:ab)(u:M)(q:cJ ab)(S:v.eval aa=C)(i:w.ownsRow a s b C u q)(l:Addr)(r al:M)(c:cJ ab)(W:v.eval ac=I (H l) r al)(O:y c=r*b)(f:∀an B,c[an]?=H B->aW w (l.add an)=H B)(D:∀B∈c,B.oneCell'=ci)(hn:u+r<=140737488355328)(d:(u+r)*bytes<=140737488355328)(e:a<=z (G w))(ao:∀k w',w'.ownsRow a s b k (u+r) (q++c)->eE w w' C k->wpList P j ad rest (v.put x.dst k) w'):wpList P j ad (x::rest) v w:=wpList_append_own_at w n aa ac A Q a s t h b bytes V N hz g m p o C u q S i l r al c W O f D (by unfold maxLen;omega) d e λk w' E K _ L=>ao k w' E<|eE.of K L
def Mo{b:Option M}(h:a.grownBy f b)(k:f.grownBy A b):a.grownBy A b:=h.trans k
def aH{c i:M}{u:ab}{t:TypeId}{b:M×M}(h:a.heap[c]?=H (aw V t b)):(cq a (R c i) u).heap[c]?=H (aw (V.setIfInBounds i u) t b):=by
 simp only[World.setCell,qB,h];simp
def dN(w:Y)(b i:M)(u:ab):w.grownBy (cq w (R b i) u) (H b):=⟨rfl,rfl,rfl,by simp_all,λk _ a=>Below.heap_setCell w (R b i) u k<|λe=>a<|by rw[e]⟩
def Fe(w:Y)(a:Option M):w.grownBy w a:=⟨rfl,rfl,rfl,ah _,λ_ _ _=>rfl⟩
theorem cg{b i:M}{t:TypeId}{c:M×M}(h:a.heap[b]?=H (aw V t c)):aW a (R b i)=V[i]?:=by simp[World.cell?,h]
def cellAt{t:TypeId}{c:M×M}(h:a.heap[b]?=H (.cells V t c))(i:M)(e:V.toList[i]?=H d):aW a (R b i)=H d:=by rw[cg h,<-e];simp
def cP{b i:M}{t:TypeId}(h:a.heap[b]?=H (aw V t (0,0))):a.frozen? (R b i)=aX:=by simp[World.frozen?,h]
def fC{o:Obj}(h:b<z (G a)):aW (cN a o) (R b c)=aW a (R b c):=dt (w:=a)<|Below.heap_alloc a o b h
def _root_.Go.RowKit.Below.of_heap{a w w':Y}(h:Below b a w)(e:(w'.os,w'.tape,w'.output,w'.heap)=(w.os,w.tape,w.output,w.heap)):Below b a w':=by
 simp only[ib]at e;exact⟨e.1.trans h.os,e.2.1.trans h.tape,e.2.2.1.trans h.output,by rw[e.2.2.2];exact h.size,λk d=>by rw[e.2.2.2];exact h.block k d⟩
theorem ak{b:M}{o:Obj}(h:a.heap[b]?=H o):b<z (G a):=by
 by_cases c:b<z (G a);exact c;grind
