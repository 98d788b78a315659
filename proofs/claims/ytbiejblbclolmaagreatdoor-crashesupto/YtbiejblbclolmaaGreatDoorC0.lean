import Derived.Lib.AppendStr
import Derived.Maps.AppendAt
import Derived.ProofKit
import Derived.WalkKit
open _root_ renaming List.length→y,Option.some→H,Array.size→z,Go.World.heap→G,Go.Value.ownBlock→cI,Go.World.cell?→aW,Go.World.setCell→cH,Go.World.alloc→dd,Bool.false→bw,Bool.true→cf,Nat→M,Int→U,List→ci,Go.Value.slice→I,Go.Value.string→am
namespace Go.Proofs.YtbiejblbclolmaaGreatDoor
open ChangeShapes WideShapes RowKit List
set_option maxHeartbeats 16000000
set_option linter.all false
set_option maxRecDepth 100000

abbrev dJ:=@Addr.add_lit
abbrev ua:=@Array.getElem?_append_left
abbrev uD:=@Array.getElem?_eq_getElem
abbrev nZ:=@Array.getElem?_eq_some_iff
abbrev qX:=@Array.getElem?_modify
abbrev xV:=@Array.getElem?_toList
abbrev mr:=@Array.length_toList
abbrev ft:=@Array.replicate_succ
abbrev fq:=@Array.replicate_zero
abbrev vB:=@Array.setIfInBounds_comm
abbrev nY:=@Array.size_replicate
abbrev sS:=@Array.toList_append
abbrev my:=@Bool.and_eq_true
abbrev vA:=@Bool.and_self
abbrev yl:=@Bool.false_and
abbrev tZ:=@Bool.false_eq_true
abbrev zR:=@Bool.false_or
abbrev nX:=@Bool.not_false
abbrev vz:=@Bool.not_true
abbrev ae:=ByteArray
abbrev lA:=@ByteArray.size_append
abbrev sR:=@ByteArray.toList_eq
abbrev Ai:=@Calls.mono
abbrev qp:=@DataW.trod_int
abbrev kC:=@Function.comp_def
abbrev rK:=@Iff.rfl
abbrev vX:=@Int.eq_ofNat_of_zero_le
abbrev sa:=@Int.le_refl
abbrev wN:=@Int.le_trans
abbrev Bb:=@Int.pow_succ
abbrev tY:=@Int.tmod_eq_emod_of_nonneg
abbrev bP:=@IntKind.wrap_i64
abbrev eZ:=@IntKind.wrap_u64
abbrev uC:=@Lib.run_append_own_string
abbrev lz:=@List.Pairwise.sublist
abbrev nC:=@List.Perm.append_left
abbrev qo:=@List.Perm.append_right
abbrev jx:=@List.Perm.refl
abbrev qn:=@List.Sublist.length_le
abbrev kB:=@List.Sublist.refl
abbrev vW:=@List.all_eq_true
abbrev rj:=@List.any_eq_true
abbrev bj:=@List.append_assoc
abbrev tX:=@List.append_cancel_left_eq
abbrev kN:=@List.append_eq_nil_iff
abbrev dz:=@List.append_nil
abbrev tW:=@List.append_of_mem
abbrev fM:=@List.append_toArray
abbrev ni:=@List.cons.injEq
abbrev cR:=@List.cons_append
abbrev qW:=@List.cons_prefix_cons
abbrev bJ:=@List.drop_eq_getElem_cons
abbrev wM:=@List.drop_eq_nil_of_le
abbrev tT:=@List.drop_left
abbrev gz:=@List.drop_length
abbrev lM:=@List.drop_sublist
abbrev aS:=@List.eq_nil_of_length_eq_zero
abbrev xU:=@List.eq_nil_or_concat
abbrev qm:=@List.exists_of_findSome?_eq_some
abbrev uN:=@List.ext_getElem?
abbrev li:=@List.filter_append
abbrev uM:=@List.filter_congr
abbrev fC:=@List.filter_cons_of_neg
abbrev iD:=@List.filter_cons_of_pos
abbrev ie:=@List.filter_eq_nil_iff
abbrev fK:=@List.filter_eq_self
abbrev eY:=@List.filter_sublist
abbrev mS:=@List.find?_eq_none
abbrev xJ:=@List.find?_some
abbrev fJ:=@List.flatMap_append
abbrev dY:=@List.flatMap_cons
abbrev vV:=@List.flatMap_nil
abbrev dW:=@List.flatten_append
abbrev bW:=@List.flatten_cons
abbrev kY:=@List.flatten_nil
abbrev gd:=@List.foldl_append
abbrev iK:=@List.foldl_cons
abbrev tR:=@List.getD_eq_getElem?_getD
abbrev ic:=@List.getElem?_append_left
abbrev fp:=@List.getElem?_append_right
abbrev vU:=@List.getElem?_cons_succ
abbrev aR:=@List.getElem?_eq_getElem
abbrev qV:=@List.getElem?_eq_none
abbrev jP:=@List.getElem?_eq_some_iff
abbrev fB:=@List.getElem?_map
abbrev gF:=@List.getElem?_set_ne
abbrev iC:=@List.getElem?_set_self'
abbrev pE:=@List.getElem?_take
abbrev ph:=@List.getElem?_take_of_lt
abbrev uB:=@List.getElem_append_right
abbrev kM:=@List.getElem_cons_drop
abbrev cD:=@List.getElem_cons_succ
abbrev cG:=@List.getElem_cons_zero
abbrev ql:=@List.getElem_drop
abbrev kX:=@List.getElem_map
abbrev ar:=@List.getElem_mem
abbrev eC:=@List.getElem_of_mem
abbrev mw:=@List.getElem_set
abbrev qU:=@List.getElem_set_self
abbrev kA:=@List.getElem_take
abbrev da:=@List.getElem_toArray
abbrev ri:=@List.isEmpty_nil
abbrev af:=@List.length_append
abbrev aO:=@List.length_cons
abbrev iP:=@List.length_drop
abbrev eW:=@List.length_filter_le
abbrev sQ:=@List.length_flatten
abbrev bU:=@List.length_map
abbrev dB:=@List.length_nil
abbrev gN:=@List.length_pos_iff
abbrev iJ:=@List.length_set
abbrev dp:=@List.length_take
abbrev sP:=@List.length_take_le
abbrev aE:=@List.map_append
abbrev oV:=@List.map_congr_left
abbrev bR:=@List.map_cons
abbrev iO:=@List.map_eq_append_iff
abbrev nW:=@List.map_eq_cons_iff
abbrev yj:=@List.map_id
abbrev tQ:=@List.map_inj_right
abbrev ee:=@List.map_map
abbrev iz:=@List.map_nil
abbrev vT:=@List.map_reverse
abbrev sY:=@List.map_set
abbrev vy:=@List.map_take
abbrev aA:=@List.mem_append
abbrev ib:=@List.mem_append_left
abbrev qT:=@List.mem_append_right
abbrev bM:=@List.mem_cons
abbrev dQ:=@List.mem_cons_of_mem
abbrev lh:=@List.mem_cons_self
abbrev eK:=@List.mem_filter
abbrev kW:=@List.mem_flatMap
abbrev bC:=@List.mem_flatten
abbrev ia:=@List.mem_iff_getElem
abbrev bH:=@List.mem_map
abbrev oU:=@List.mem_map_of_mem
abbrev lE:=@List.mem_of_find?_eq_some
abbrev eR:=@List.mem_of_getElem?
abbrev gD:=@List.mem_of_mem_drop
abbrev gC:=@List.mem_of_mem_take
abbrev mu:=@List.mem_range
abbrev rh:=@List.mem_reverse
abbrev cL:=@List.mem_singleton
abbrev xS:=@List.modify_succ_cons
abbrev xR:=@List.modify_zero_cons
abbrev du:=@List.nil_append
abbrev kw:=@List.nodup_append
abbrev gQ:=@List.nodup_cons
abbrev gR:=@List.not_mem_nil
abbrev aZ:=@List.pairwise_append
abbrev bz:=@List.pairwise_cons
abbrev cV:=@List.pairwise_iff_getElem
abbrev gW:=@List.pairwise_map
abbrev pN:=@List.pairwise_singleton
abbrev xQ:=@List.perm_append_comm
abbrev tP:=@List.perm_append_singleton
abbrev rf:=@List.perm_middle
abbrev sH:=@List.prefix_append_right_inj
abbrev gy:=@List.prefix_refl
abbrev gB:=@List.push_toArray
abbrev uL:=@List.reverse_cons
abbrev cZ:=@List.setIfInBounds_toArray
abbrev gM:=@List.set_append_right
abbrev ez:=@List.set_cons_succ
abbrev eN:=@List.set_cons_zero
abbrev jq:=@List.set_eq_take_append_cons_drop
abbrev jQ:=@List.singleton_append
abbrev gA:=@List.size_toArray
abbrev iR:=@List.sublist_append_right
abbrev dw:=@List.sublist_flatten_of_mem
abbrev ga:=@List.sum_append
abbrev vu:=@List.sum_cons
abbrev bO:=@List.take_append_drop
abbrev dK:=@List.take_append_of_le_length
abbrev ld:=@List.take_left
abbrev pB:=@List.take_left'
abbrev aY:=@List.take_length
abbrev dN:=@List.take_of_length_le
abbrev qj:=@List.take_sublist
abbrev sO:=@List.take_succ_cons
abbrev ah:=@List.take_succ_eq_append_getElem
abbrev yi:=@List.take_take
abbrev yh:=@List.take_zero
abbrev pD:=@MapKept.heap_alloc
abbrev iN:=@MapKept.heap_set
abbrev iF:=@MapKept.run_checkKey
abbrev ir:=@MapKept.run_findKey
abbrev qi:=@MapKept.run_getObj_map
abbrev vt:=@MapKept.run_keyThatStays
abbrev jw:=@MapKept.run_setObj_map
abbrev qS:=@MapKept.stamped_empty
abbrev wL:=@MapKept.stamped_modify
abbrev bD:=@Nat.add_assoc
abbrev Ba:=@Nat.add_comm
abbrev vS:=@Nat.add_sub_cancel_left
abbrev kL:=@Nat.add_zero
abbrev gH:=@Nat.eq_zero_or_pos
abbrev AZ:=@Nat.le_of_eq
abbrev ag:=@Nat.le_refl
abbrev aB:=@Nat.le_trans
abbrev rJ:=@Nat.lt_irrefl
abbrev ai:=@Nat.lt_of_lt_of_le
abbrev mR:=@Nat.lt_or_eq_of_le
abbrev iy:=@Nat.lt_or_ge
abbrev vr:=@Nat.lt_succ_iff_lt_or_eq
abbrev nJ:=@Nat.lt_trichotomy
abbrev pA:=@Nat.min_eq_left
abbrev wK:=@Nat.mod_lt
abbrev rZ:=@Nat.mul_one
abbrev AY:=@Nat.sub_self
abbrev dM:=@Nat.zero_add
abbrev bK:=@Nat.zero_le
abbrev AX:=@Nat.zero_mul
abbrev oJ:=@Option.getD_some
abbrev qh:=@Option.map_eq_some_iff
abbrev jv:=@Option.none_or
abbrev tN:=@Option.or_none
abbrev gP:=@Option.some.inj
abbrev uK:=@Option.some.injEq
abbrev dD:=@Prod.mk.inj
abbrev io:=@Prod.mk.injEq
abbrev nI:=@Result.andThen_ok
abbrev jY:=@Sem.run_bind
abbrev wJ:=@Sem.run_pure
abbrev ab:=Value
abbrev Y:=World
abbrev cF:=@World.block_lt_of_cell?
abbrev rY:=@World.cell?_alloc_at
abbrev eE:=@World.cell?_alloc_lt
abbrev qg:=@World.cell?_alloc_past
abbrev bF:=@World.cell?_drew
abbrev dy:=@World.cell?_of_block
abbrev oO:=@World.cell?_setCell_same'
abbrev dP:=@World.grownBy_alloc
abbrev aT:=@World.ownsRow.alloc
abbrev bN:=@World.ownsRow.lt
abbrev cK:=@World.ownsRow_nil
abbrev vR:=@and_true
abbrev oT:=@beq_eq_false_iff_ne
abbrev Ah:=@bne_iff_ne
abbrev AW:=@bodyPost_end
abbrev cy:=@bodyPost_ret
abbrev vq:=@callsIn_of_wp
abbrev eD:=@callsIn_wide
abbrev qf:=@cell_one_new
abbrev bS:=@congrArg
abbrev qe:=@decide_eq_true_eq
abbrev AV:=@decide_false
abbrev uJ:=@decide_true
abbrev AU:=@dif_pos
abbrev tM:=@growslice_fits
abbrev iE:=@heap_alloc_new
abbrev rX:=@if_false
abbrev dt:=@if_neg
abbrev di:=@if_pos
abbrev nH:=@if_true
abbrev dl:=@info_parts
abbrev lL:=@leaves_cons
abbrev zh:=@mem_ready
abbrev uI:=@of_decide_eq_true
abbrev nV:=@or_false
abbrev tL:=@ready_mono
abbrev ju:=@results_none
abbrev kT:=@results_tmp
abbrev AT:=@results_tmp2
abbrev qd:=@results_tmp3
abbrev gZ:=@rounds_succ
abbrev nG:=@run_append_own_at
abbrev eO:=@run_callFunc_extern
abbrev wI:=@run_convert_bytes_back
abbrev kH:=@run_loadVar_row
abbrev rW:=@run_makeMap
abbrev Cw:=@run_store
abbrev fI:=@run_underlying
abbrev uH:=@setRow_heap
abbrev sX:=@setRow_other
abbrev zg:=@wpIn_wide
abbrev yg:=@wpListIn_plain
abbrev kG:=@wpList_make_own
abbrev lK:=@wpList_plain
abbrev zf:=@wpOp_mono
abbrev jd:=@wp_loop_rounds
abbrev zQ:=@wp_region_any
abbrev fh:=M->Prop
abbrev ix:=ci ab
abbrev eF:=ci U
abbrev R(b i:M):Addr:=⟨b,i,none⟩
abbrev aD(b:M):ab:=.pointer<|H ⟨b,0,none⟩
abbrev bI(b i n c:M):ab:=.slice (H ⟨b,i,none⟩) n c
abbrev az:ab:=.slice none 0 0
abbrev aw{α:Type}:α->Prop:=λ_=>False
abbrev aq:=Value.int .i64
abbrev aG:=Value.int .u64
abbrev dI:=Value.int .u32
abbrev td:=Value.int .u8
abbrev nE:=Value.int .i32
abbrev ay:=@Obj.cells
abbrev aN:=@Ending.returned
variable{a f A:Y}{b c:M}{d t:ab}{r:ae}{T:Prop}
def X{p:Prop}(h:p):Hid p:=h
theorem J{p:Prop}(h:Hid p):p:=h
def cJ{α:Type}{p:α->Prop}(k:α)(h:aw k):p k:=h.elim
def lQ{α β γ:Type}{p:α->β->γ->Prop}(a:α)(b:β)(c:γ)(h:p a b c):p a b c:=h
def IY{p:Prop}{α:Type}{a:α}(h:a≠a):p:=(h rfl).elim
def dF{a c d:Prop}(e:a)(g:c)(h:d):Hid a/\Hid c/\Hid d:=⟨e,g,h⟩
def gw{a b c d:Prop}(e:a)(g:b)(h:c)(i:d):Hid a/\Hid b/\Hid c/\Hid d:=⟨e,g,h,i⟩
def iY{a b c d e:Prop}(g:a)(h:b)(i:c)(j:d)(k:e):Hid a/\Hid b/\Hid c/\Hid d/\Hid e:=⟨g,h,i,j,k⟩
def lw{a c d e f g:Prop}(h:a)(i:c)(j:d)(k:e)(l:f)(m:g):Hid a/\Hid c/\Hid d/\Hid e/\Hid f/\Hid g:=⟨h,i,j,k,l,m⟩
def zX{a b c d e g h:Prop}(i:a)(j:b)(k:c)(l:d)(m:e)(n:g)(o:h):Hid a/\Hid b/\Hid c/\Hid d/\Hid e/\Hid g/\Hid h:=⟨i,j,k,l,m,n,o⟩
def Gw{a b c d e f g:Prop}(h:T)(i:a)(j:b)(k:c)(l:d)(m:e)(n:f)(o:g):Hid T/\Hid a/\Hid b/\Hid c/\Hid d/\Hid e/\Hid f/\Hid g:=⟨h,i,j,k,l,m,n,o⟩
def yU{a b c d e f g h i:Prop}(j:a)(k:b)(l:c)(m:d)(n:e)(o:f)(p:g)(q:h)(r:i):Hid a/\Hid b/\Hid c/\Hid d/\Hid e/\Hid f/\Hid g/\Hid h/\Hid i:=⟨j,k,l,m,n,o,p,q,r⟩
structure eJ(w w':Y)(v v':ab):Prop where
 grown:w.grownBy w' (cI v)
 vQ:cI v'=cI v\/∃g,cI v'=H g/\z (G w)<=g
theorem eJ.refl(w:Y)(v:ab):eJ w w v v:=⟨⟨rfl,rfl,rfl,ag _,λ_ _ _=>rfl⟩,.inl rfl⟩
def eJ.trans{g b i:Y}{u v x:ab}(h:eJ g b u v)(k:eJ b i v x):eJ g i u x:=by
 refine⟨⟨k.grown.os.trans h.grown.os,k.grown.tape.trans h.grown.tape,k.grown.output.trans h.grown.output,aB h.grown.size k.grown.size,λj a d=>?_⟩,?_⟩;refine(k.grown.block j (ai a h.grown.size) ?_).trans<|h.grown.block j a d;grind[eJ.vQ]
 rcases k.vQ with e|⟨l,e,c⟩;rw[e];exact h.vQ;exact .inr ⟨l,e,aB h.grown.size c⟩
def eJ.alloc(o:Obj)(h:eJ (a.alloc o) A d t):eJ a A d t:=by
 refine⟨(dP a o<|cI d).trans h.grown,?_⟩;rcases h.vQ with e|⟨g,e,b⟩;exact .inl e;exact .inr ⟨g,e,by simp at b;omega⟩
def eJ.below(h:eJ a f d t){B:M}(b:B<=z (G a))(c:∀k,cI d=H k->B<=k):Below B a f:=(Below.refl B a).grown h.grown b c
def eJ.of(h:a.grownBy f (cI d))(b:cI t=cI d\/cI t=H (z<|G a)):eJ a f d t:=⟨h,(by grind)⟩
def DC{P:Program}{F v p x:TypeId}{A:TypeInfo}(s:P.underlying F=H (.slice x))(u:P.underlying v=H .string)(q:P.info? x=H A)(E:A.zero=H (td 0))(e:A.size=1)(k:A.bytes=1){w:ci ab}(i:a.ownsRow b x 1 d c w)(h:c+r.size<=140737488355328)(m:(Builtin.append_ #[F,v] p #[d,am r]).run P a=.ok t f):cI t=cI d\/cI t=H (z<|G a):=by
 rcases i.2 with⟨rfl,rfl⟩|⟨K,g,o,rfl,L,O,Q,N,B,C⟩;by_cases n:r.size=0;(obtain⟨S,l,j,_,_,D⟩:=uC (P:=P) a 0 F v p x A s u q E e k az 0 [] (cK a 0 x 1) r (by grind) h<|bK _;rw[j]at m;grind);have j:=run_append_nil_string (P:=P) a F v p x A (td 0) s u q E r (by omega) (by omega) (by rw[k];omega);rw[j]at m;cases m;exact .inr rfl;by_cases n:c+r.size<=g;(have l:o.size=g:=by simpa using B);have j:=Lib.run_append_room_string (P:=P) a F v p x A s u q e K c g o O r n (by omega);rw[j]at m;cases m;exact .inl rfl;have l:∀j v,w[j]?=H v->aW a (((R K 0):Addr).add j)=H v:=i.cells (g:=K) rfl;(have D:y w=c:=by grind);have j:=Lib.run_append_grow_string (P:=P) a F v p x A (td 0) s u q E (R K 0) c g w (by rw[e];simpa using D) l r (by omega) (by omega) (by rw[k];exact tM (by omega)<|by omega);rw[j]at m;cases m;exact .inr rfl
def ub{P:Program}(w:Y){g:Array Oper}{rest:ci Oper}{t:Oper}{x:Act}{Q:Exit->Act->Y->Prop}(k:t.guard=none)(v S:Operand)(N O:TypeId)(F:t.op=.call {callee:=.builtin .append,args:=#[v,S],argTypes:=#[N,O]})(a:M)(m:TypeId)(s:TypeInfo)(p:P.underlying N=H (.slice m))(q:P.underlying O=H .string)(n:P.info? m=H s)(r:s.zero=H (td 0))(c:s.size=1)(f:s.bytes=1)(B:ab)(A:M)(l:ci ab)(K:x.eval v=B)(d:w.ownsRow a m 1 B A l)(u:ae)(L:x.eval S=am u)(b:A+u.size<=140737488355328)(e:a<=z (G w))(T:∀h i,i.ownsRow a m 1 h (A+u.size) (l++Lib.strCells u)->eJ w i B h->wpList P g Q rest (x.put t.dst h) i):wpList P g Q (t::rest) x w:=by
 refine lK k λV E=>?_;obtain⟨h,i,o,C,D,_⟩:=uC (P:=P) w a N O t.type m s p q n r c f B A l d u (by unfold maxLen;omega) b e;have j:=DC p q n r c f d b o;unfold Oper.wp execOp;simp only[F,resolve,invoke,builtin,jY,wJ,nI,List.map_toArray,bR,iz,K,L,o];exact E _ _<|T h i C<|eJ.of D j
def cC{P:Program}(w:Y){j:Array Oper}{rest:ci Oper}{x:Oper}{v:Act}{ad:Exit->Act->Y->Prop}(n:x.guard=none)(aa ac:Operand)(A:TypeId)(Q:x.op=.call {callee:=.builtin .append,args:=#[aa,ac],argTypes:=#[A,A]})(a:M)(s:TypeId)(t:TypeInfo)(h:ab)(b bytes:M)(V:P.underlying A=H (.slice s))(N:P.info? s=H t)(hz:t.zero=H h)(g:t.size=b)(m:t.bytes=bytes)(p:h.cells.size=b)(o:0<b)(C:ab)(u:M)(q:ci ab)(S:v.eval aa=C)(i:w.ownsRow a s b C u q)(l:Addr)(r al:M)(c:ci ab)(W:v.eval ac=I (H l) r al)(O:y c=r*b)(f:∀an B,c[an]?=H B->aW w (l.add an)=H B)(D:∀B∈c,B.oneCell'=cf)(hn:u+r<=140737488355328)(d:(u+r)*bytes<=140737488355328)(e:a<=z (G w))(ao:∀k w',w'.ownsRow a s b k (u+r) (q++c)->eJ w w' C k->wpList P j ad rest (v.put x.dst k) w'):wpList P j ad (x::rest) v w:=wpList_append_own_at w n aa ac A Q a s t h b bytes V N hz g m p o C u q S i l r al c W O f D (by unfold maxLen;omega) d e λk w' E K _ L=>ao k w' E<|eJ.of K L
def NR{b:Option M}(h:a.grownBy f b)(k:f.grownBy A b):a.grownBy A b:=h.trans k
def aJ{d i:M}{u:ab}{b:Array ab}{t:TypeId}{c:M×M}(h:a.heap[d]?=H (ay b t c)):(cH a (R d i) u).heap[d]?=H (ay (b.setIfInBounds i u) t c):=by
 simp only[World.setCell,qX,h];simp
def dS(w:Y)(b i:M)(u:ab):w.grownBy (cH w (R b i) u) (H b):=⟨rfl,rfl,rfl,by simp_all,λk _ a=>Below.heap_setCell w (R b i) u k<|λe=>a<|by rw[e]⟩
def Gx(w:Y)(a:Option M):w.grownBy w a:=⟨rfl,rfl,rfl,ag _,λ_ _ _=>rfl⟩
theorem ct{b i:M}{c:Array ab}{t:TypeId}{d:M×M}(h:a.heap[b]?=H (ay c t d)):aW a (R b i)=c[i]?:=by simp[World.cell?,h]
def cellAt{c:Array ab}{t:TypeId}{e:M×M}(h:a.heap[b]?=H (.cells c t e))(i:M)(f:c.toList[i]?=H d):aW a (R b i)=H d:=by rw[ct h,<-f];simp
def cQ{c i:M}{b:Array ab}{t:TypeId}(h:a.heap[c]?=H (ay b t (0,0))):a.frozen? (R c i)=bw:=by simp[World.frozen?,h]
def fE{o:Obj}(h:b<z (G a)):aW (dd a o) (R b c)=aW a (R b c):=dy (w:=a)<|Below.heap_alloc a o b h
def _root_.Go.RowKit.Below.of_heap{a w w':Y}(h:Below b a w)(e:(w'.os,w'.tape,w'.output,w'.heap)=(w.os,w.tape,w.output,w.heap)):Below b a w':=by
 simp only[io]at e;exact⟨e.1.trans h.os,e.2.1.trans h.tape,e.2.2.1.trans h.output,by rw[e.2.2.2];exact h.size,λk d=>by rw[e.2.2.2];exact h.block k d⟩
theorem ak{b:M}{o:Obj}(h:a.heap[b]?=H o):b<z (G a):=by
 by_cases c:b<z (G a);exact c;grind
