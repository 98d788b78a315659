import Derived.Lib.AppendStr
import Derived.Maps.AppendAt
import Derived.ProofKit
import Derived.WalkKit
open _root_ renaming List.length→y,Option.some→H,Array.size→z,Go.World.heap→G,Go.Value.ownBlock→ct,Go.World.cell?→aO,Go.World.setCell→cA,Go.World.alloc→cF,Bool.false→aY,Bool.true→bU,Nat→M,Int→Z,List→cw,Go.Value.slice→J,Go.Value.string→aj
namespace Go.Proofs.YtgbhcncpienkcaaGreatDoor
open ChangeShapes WideShapes RowKit List
set_option maxHeartbeats 16000000
set_option linter.all false
set_option maxRecDepth 100000

abbrev du:=@Addr.add_lit
abbrev nN:=@Array.getElem?_append_left
abbrev tK:=@Array.getElem?_eq_getElem
abbrev jq:=@Array.getElem?_eq_none
abbrev nM:=@Array.getElem?_eq_some_iff
abbrev qO:=@Array.getElem?_modify
abbrev jP:=@Array.getElem?_setIfInBounds_ne
abbrev wS:=@Array.getElem?_toList
abbrev jy:=@Array.length_toList
abbrev dR:=@Array.replicate_succ
abbrev dQ:=@Array.replicate_zero
abbrev uy:=@Array.setIfInBounds_comm
abbrev nL:=@Array.size_replicate
abbrev ow:=@Array.toList_append
abbrev nJ:=@Array.toList_setIfInBounds
abbrev mH:=@Bool.and_eq_true
abbrev ux:=@Bool.and_self
abbrev wJ:=@Bool.eq_iff_iff
abbrev xu:=@Bool.false_and
abbrev gC:=@Bool.false_eq_true
abbrev zf:=@Bool.false_or
abbrev nI:=@Bool.not_false
abbrev uw:=@Bool.not_true
abbrev ab:=ByteArray
abbrev sg:=@ByteArray.toList_eq
abbrev zu:=@Calls.mono
abbrev xq:=@DataW.trod_int
abbrev qa:=@DataW.trod_string
abbrev lD:=@Function.comp_def
abbrev rA:=@Iff.rfl
abbrev uW:=@Int.eq_ofNat_of_zero_le
abbrev vR:=@Int.le_trans
abbrev Ad:=@Int.pow_succ
abbrev bw:=@IntKind.wrap_i64
abbrev gZ:=@IntKind.wrap_u64
abbrev tJ:=@Lib.run_append_own_string
abbrev lu:=@List.Pairwise.sublist
abbrev qN:=@List.Perm.append_left
abbrev vQ:=@List.Perm.append_right
abbrev mG:=@List.Perm.refl
abbrev pZ:=@List.Sublist.length_le
abbrev nB:=@List.Sublist.refl
abbrev qX:=@List.all_eq_true
abbrev oa:=@List.any_eq_true
abbrev bD:=@List.append_assoc
abbrev mX:=@List.append_eq_nil_iff
abbrev ee:=@List.append_nil
abbrev sO:=@List.append_of_mem
abbrev eD:=@List.append_toArray
abbrev oR:=@List.cons.injEq
abbrev cL:=@List.cons_append
abbrev aZ:=@List.drop_eq_getElem_cons
abbrev vP:=@List.drop_eq_nil_of_le
abbrev sN:=@List.drop_left
abbrev gh:=@List.drop_length
abbrev kG:=@List.drop_sublist
abbrev aP:=@List.eq_nil_of_length_eq_zero
abbrev wR:=@List.eq_nil_or_concat
abbrev uV:=@List.eraseIdx_cons_succ
abbrev pY:=@List.exists_of_findSome?_eq_some
abbrev tY:=@List.ext_getElem?
abbrev lf:=@List.filter_append
abbrev tX:=@List.filter_congr
abbrev fp:=@List.filter_cons_of_neg
abbrev im:=@List.filter_cons_of_pos
abbrev gV:=@List.filter_eq_nil_iff
abbrev fB:=@List.filter_eq_self
abbrev fa:=@List.filter_sublist
abbrev mW:=@List.find?_eq_none
abbrev wI:=@List.find?_some
abbrev gd:=@List.flatMap_append
abbrev dF:=@List.flatMap_cons
abbrev uU:=@List.flatMap_nil
abbrev dB:=@List.flatten_append
abbrev bG:=@List.flatten_cons
abbrev iB:=@List.flatten_nil
abbrev iL:=@List.foldl_append
abbrev iU:=@List.foldl_cons
abbrev sM:=@List.getD_eq_getElem?_getD
abbrev iE:=@List.getElem?_append_left
abbrev fU:=@List.getElem?_append_right
abbrev pz:=@List.getElem?_cons_succ
abbrev aI:=@List.getElem?_eq_getElem
abbrev lq:=@List.getElem?_eq_none
abbrev iD:=@List.getElem?_eq_some_iff
abbrev dP:=@List.getElem?_map
abbrev gu:=@List.getElem?_set_ne
abbrev ik:=@List.getElem?_set_self'
abbrev oX:=@List.getElem?_take
abbrev oI:=@List.getElem?_take_of_lt
abbrev uv:=@List.getElem_append_left
abbrev tI:=@List.getElem_append_right
abbrev kQ:=@List.getElem_cons_drop
abbrev bF:=@List.getElem_cons_succ
abbrev bQ:=@List.getElem_cons_zero
abbrev qW:=@List.getElem_map
abbrev ak:=@List.getElem_mem
abbrev dO:=@List.getElem_of_mem
abbrev mF:=@List.getElem_set
abbrev qM:=@List.getElem_set_self
abbrev lC:=@List.getElem_take
abbrev cy:=@List.getElem_toArray
abbrev qV:=@List.isEmpty_nil
abbrev af:=@List.length_append
abbrev aS:=@List.length_cons
abbrev ja:=@List.length_drop
abbrev py:=@List.length_eq_zero_iff
abbrev eK:=@List.length_filter_le
abbrev ml:=@List.length_flatten
abbrev cV:=@List.length_map
abbrev dH:=@List.length_nil
abbrev gJ:=@List.length_pos_iff
abbrev eS:=@List.length_set
abbrev dU:=@List.length_take
abbrev ou:=@List.length_take_le
abbrev aQ:=@List.map_append
abbrev mj:=@List.map_congr_left
abbrev bZ:=@List.map_cons
abbrev iA:=@List.map_eq_append_iff
abbrev nH:=@List.map_eq_cons_iff
abbrev tW:=@List.map_id
abbrev iz:=@List.map_map
abbrev fW:=@List.map_nil
abbrev qU:=@List.map_reverse
abbrev nZ:=@List.map_set
abbrev sL:=@List.map_singleton
abbrev aE:=@List.mem_append
abbrev iZ:=@List.mem_append_left
abbrev fV:=@List.mem_append_right
abbrev bH:=@List.mem_cons
abbrev bI:=@List.mem_cons_of_mem
abbrev ew:=@List.mem_cons_self
abbrev dZ:=@List.mem_filter
abbrev oW:=@List.mem_filterMap
abbrev mD:=@List.mem_flatMap
abbrev bE:=@List.mem_flatten
abbrev gq:=@List.mem_iff_getElem
abbrev bW:=@List.mem_map
abbrev ot:=@List.mem_map_of_mem
abbrev lz:=@List.mem_of_find?_eq_some
abbrev gp:=@List.mem_of_getElem?
abbrev dK:=@List.mem_of_mem_drop
abbrev fJ:=@List.mem_of_mem_take
abbrev jR:=@List.mem_or_eq_of_mem_set
abbrev nG:=@List.mem_range
abbrev qT:=@List.mem_reverse
abbrev cX:=@List.mem_singleton
abbrev qL:=@List.modify_succ_cons
abbrev qK:=@List.modify_zero_cons
abbrev cU:=@List.nil_append
abbrev iK:=@List.nodup_append
abbrev kK:=@List.nodup_cons
abbrev fO:=@List.not_mem_nil
abbrev bR:=@List.pairwise_append
abbrev bC:=@List.pairwise_cons
abbrev cN:=@List.pairwise_iff_getElem
abbrev jp:=@List.pairwise_map
abbrev qJ:=@List.perm_append_comm
abbrev uT:=@List.perm_middle
abbrev eV:=@List.push_toArray
abbrev tV:=@List.reverse_cons
abbrev tU:=@List.reverse_perm
abbrev cz:=@List.setIfInBounds_toArray
abbrev gF:=@List.set_append_right
abbrev dl:=@List.set_cons_succ
abbrev dC:=@List.set_cons_zero
abbrev jg:=@List.set_eq_take_append_cons_drop
abbrev jU:=@List.singleton_append
abbrev vO:=@List.singleton_sublist
abbrev eU:=@List.size_toArray
abbrev oH:=@List.sublist_append_left
abbrev gT:=@List.sublist_append_right
abbrev cS:=@List.sublist_flatten_of_mem
abbrev eR:=@List.sum_append
abbrev oG:=@List.sum_cons
abbrev Ac:=@List.sum_nil
abbrev sK:=@List.sum_singleton
abbrev bN:=@List.take_append_drop
abbrev iJ:=@List.take_append_of_le_length
abbrev pX:=@List.take_left
abbrev oQ:=@List.take_left'
abbrev aX:=@List.take_length
abbrev cZ:=@List.take_of_length_le
abbrev nA:=@List.take_sublist
abbrev kM:=@List.take_succ_cons
abbrev ah:=@List.take_succ_eq_append_getElem
abbrev sJ:=@List.take_zero
abbrev oV:=@MapKept.heap_alloc
abbrev fN:=@MapKept.heap_set
abbrev eQ:=@MapKept.run_checkKey
abbrev eN:=@MapKept.run_findKey
abbrev jo:=@MapKept.run_getObj_map
abbrev oF:=@MapKept.run_keyThatStays
abbrev fG:=@MapKept.run_setObj_map
abbrev wQ:=@MapKept.stamped_empty
abbrev wP:=@MapKept.stamped_erase
abbrev pW:=@MapKept.stamped_modify
abbrev rG:=@MapKept.stamped_push
abbrev aV:=@Nat.add_assoc
abbrev vN:=@Nat.add_comm
abbrev xp:=@Nat.add_mul
abbrev uS:=@Nat.add_sub_cancel_left
abbrev jn:=@Nat.add_zero
abbrev gB:=@Nat.eq_zero_or_pos
abbrev ai:=@Nat.le_refl
abbrev aC:=@Nat.le_trans
abbrev kU:=@Nat.lt_irrefl
abbrev ag:=@Nat.lt_of_lt_of_le
abbrev mV:=@Nat.lt_or_eq_of_le
abbrev gU:=@Nat.lt_or_ge
abbrev uu:=@Nat.lt_succ_iff_lt_or_eq
abbrev lB:=@Nat.lt_trichotomy
abbrev kw:=@Nat.mul_le_mul_right
abbrev rF:=@Nat.mul_one
abbrev ft:=@Nat.not_lt_zero
abbrev Ab:=@Nat.sub_self
abbrev dp:=@Nat.zero_add
abbrev bj:=@Nat.zero_le
abbrev Aa:=@Nat.zero_mul
abbrev uR:=@Option.getD_none
abbrev mB:=@Option.getD_some
abbrev vM:=@Option.map_eq_some_iff
abbrev mz:=@Option.none_or
abbrev sI:=@Option.or_none
abbrev gY:=@Option.some.inj
abbrev tT:=@Option.some.injEq
abbrev ji:=@Prod.mk.injEq
abbrev jm:=@Result.andThen_ok
abbrev ki:=@Sem.run_bind
abbrev pV:=@Sem.run_pure
abbrev aa:=Value
abbrev Y:=World
abbrev dj:=@World.block_lt_of_cell?
abbrev fc:=@World.cell?_alloc_lt
abbrev pU:=@World.cell?_alloc_past
abbrev bY:=@World.cell?_drew
abbrev cR:=@World.cell?_of_block
abbrev my:=@World.frozen?_alloc_old
abbrev dt:=@World.grownBy_alloc
abbrev aN:=@World.ownsRow.alloc
abbrev aG:=@World.ownsRow.lt
abbrev bK:=@World.ownsRow_nil
abbrev xh:=@and_true
abbrev jx:=@beq_eq_false_iff_ne
abbrev zt:=@bne_iff_ne
abbrev vL:=@bodyPost_end
abbrev cP:=@bodyPost_ret
abbrev ru:=@callsIn_of_wp
abbrev dh:=@callsIn_wide
abbrev pT:=@cell_one_new
abbrev bX:=@congrArg
abbrev rW:=@decide_eq_false
abbrev mw:=@decide_eq_true
abbrev nz:=@decide_eq_true_eq
abbrev zZ:=@decide_false
abbrev mQ:=@decide_true
abbrev zY:=@dif_pos
abbrev sH:=@grownCap_le_maxLen
abbrev sG:=@growslice_fits
abbrev jl:=@heap_alloc_new
abbrev jk:=@if_false
abbrev dr:=@if_neg
abbrev dz:=@if_pos
abbrev ir:=@if_true
abbrev cH:=@info_parts
abbrev eH:=@leaves_cons
abbrev yq:=@mem_ready
abbrev tS:=@of_decide_eq_true
abbrev mu:=@or_false
abbrev sF:=@ready_mono
abbrev iT:=@results_none
abbrev gm:=@results_tmp
abbrev jj:=@results_tmp2
abbrev mU:=@results_tmp3
abbrev ku:=@rounds_succ
abbrev ny:=@run_append_own_at
abbrev eZ:=@run_callFunc_extern
abbrev vK:=@run_convert_bytes_back
abbrev kJ:=@run_loadVar_row
abbrev tR:=@run_makeMap
abbrev eG:=@run_underlying
abbrev tQ:=@setRow_heap
abbrev sh:=@setRow_other
abbrev sy:=@wpIn_wide
abbrev xg:=@wpListIn_plain
abbrev jJ:=@wpList_make_own
abbrev kP:=@wpList_plain
abbrev uQ:=@wpOp_mono
abbrev mr:=@wp_loop_rounds
abbrev ze:=@wp_region_any
abbrev fA:=M->Prop
abbrev iC:=cw aa
abbrev eO:=cw Z
abbrev R(b i:M):Addr:=⟨b,i,none⟩
abbrev ay(b:M):aa:=.pointer<|H ⟨b,0,none⟩
abbrev bB(b i n c:M):aa:=.slice (H ⟨b,i,none⟩) n c
abbrev aD:aa:=.slice none 0 0
abbrev az{α:Type}:α->Prop:=λ_=>False
abbrev ap:=Value.int .i64
abbrev aJ:=Value.int .u64
abbrev dq:=Value.int .u32
abbrev tL:=Value.int .u8
abbrev iO:=Value.int .i32
abbrev ar:=@Obj.cells
abbrev aL:=@Ending.returned
variable{a f C:Y}{b c:M}{d u N:aa}{W:ab}{V:Array aa}
def U{p:Prop}(h:p):Hid p:=h
theorem ae{p:Prop}(h:Hid p):p:=h
def cO{α:Type}{p:α->Prop}(k:α)(h:az k):p k:=h.elim
def iW{α β γ:Type}{p:α->β->γ->Prop}(a:α)(b:β)(c:γ)(h:p a b c):p a b c:=h
def wX{p:Prop}{α:Type}{a:α}(h:a≠a):p:=(h rfl).elim
def dA{a c d:Prop}(e:a)(g:c)(h:d):Hid a/\Hid c/\Hid d:=⟨e,g,h⟩
def gH{a b c d:Prop}(e:a)(g:b)(h:c)(i:d):Hid a/\Hid b/\Hid c/\Hid d:=⟨e,g,h,i⟩
def je{a b c d e:Prop}(g:a)(h:b)(i:c)(j:d)(k:e):Hid a/\Hid b/\Hid c/\Hid d/\Hid e:=⟨g,h,i,j,k⟩
def jX{a c d e f g:Prop}(h:a)(i:c)(j:d)(k:e)(l:f)(m:g):Hid a/\Hid c/\Hid d/\Hid e/\Hid f/\Hid g:=⟨h,i,j,k,l,m⟩
def xV{a b c d e g h:Prop}(i:a)(j:b)(k:c)(l:d)(m:e)(n:g)(o:h):Hid a/\Hid b/\Hid c/\Hid d/\Hid e/\Hid g/\Hid h:=⟨i,j,k,l,m,n,o⟩
def FB{a b c d e f g h:Prop}(i:a)(j:b)(k:c)(l:d)(m:e)(n:f)(o:g)(p:h):Hid a/\Hid b/\Hid c/\Hid d/\Hid e/\Hid f/\Hid g/\Hid h:=⟨i,j,k,l,m,n,o,p⟩
def xU{a b c d e f g h i:Prop}(j:a)(k:b)(l:c)(m:d)(n:e)(o:f)(p:g)(q:h)(r:i):Hid a/\Hid b/\Hid c/\Hid d/\Hid e/\Hid f/\Hid g/\Hid h/\Hid i:=⟨j,k,l,m,n,o,p,q,r⟩
structure eL(w w':Y)(v v':aa):Prop where
 grown:w.grownBy w' (ct v)
 ur:ct v'=ct v\/∃g,ct v'=H g/\z (G w)<=g
theorem eL.refl(w:Y)(v:aa):eL w w v v:=⟨⟨rfl,rfl,rfl,ai _,λ_ _ _=>rfl⟩,.inl rfl⟩
def eL.trans{i b j:Y}(h:eL i b d u)(k:eL b j u N):eL i j d N:=by
 refine⟨⟨k.grown.os.trans h.grown.os,k.grown.tape.trans h.grown.tape,k.grown.output.trans h.grown.output,aC h.grown.size k.grown.size,λl a g=>?_⟩,?_⟩;refine(k.grown.block l (ag a h.grown.size) ?_).trans<|h.grown.block l a g;grind[eL.ur]
 rcases k.ur with e|⟨m,e,c⟩;rw[e];exact h.ur;exact .inr ⟨m,e,aC h.grown.size c⟩
def eL.alloc{a b:Y}(o:Obj)(h:eL (a.alloc o) b d u):eL a b d u:=by
 refine⟨(dt a o<|ct d).trans h.grown,?_⟩;rcases h.ur with e|⟨g,e,c⟩;exact .inl e;exact .inr ⟨g,e,by simp at c;omega⟩
def eL.below(h:eL a f d u){B:M}(b:B<=z (G a))(c:∀k,ct d=H k->B<=k):Below B a f:=(Below.refl B a).grown h.grown b c
def eL.of(h:a.grownBy f (ct d))(b:ct u=ct d\/ct u=H (z<|G a)):eL a f d u:=⟨h,b.imp id λe=>⟨_,e,ai _⟩⟩
def Cq{P:Program}{E t p w:TypeId}{x:TypeInfo}(r:P.underlying E=H (.slice w))(s:P.underlying t=H .string)(q:P.info? w=H x)(D:x.zero=H (tL 0))(e:x.size=1)(k:x.bytes=1){v:cw aa}(i:a.ownsRow b w 1 d c v)(h:c+W.size<=140737488355328)(m:(Builtin.append_ #[E,t] p #[d,aj W]).run P a=.ok u f):ct u=ct d\/ct u=H (z<|G a):=by
 rcases i.2 with⟨rfl,rfl⟩|⟨F,g,o,rfl,K,N,O,L,A,B⟩;by_cases n:W.size=0;(obtain⟨Q,l,j,_,_,C⟩:=tJ (P:=P) a 0 E t p w x r s q D e k aD 0 [] (bK a 0 w 1) W (by grind) h<|bj _;rw[j]at m;grind);have j:=run_append_nil_string (P:=P) a E t p w x (tL 0) r s q D W (by omega) (by omega) (by rw[k];omega);rw[j]at m;cases m;exact .inr rfl;by_cases n:c+W.size<=g;(have l:o.size=g:=by simpa using A);have j:=Lib.run_append_room_string (P:=P) a E t p w x r s q e F c g o N W n (by omega);rw[j]at m;cases m;exact .inl rfl;have l:∀j t,v[j]?=H t->aO a (((R F 0):Addr).add j)=H t:=i.cells (g:=F) rfl;(have C:y v=c:=by grind);have j:=Lib.run_append_grow_string (P:=P) a E t p w x (tL 0) r s q D (R F 0) c g v (by rw[e];simpa using C) l W (by omega) (by omega) (by rw[k];exact sG (by omega)<|by omega);rw[j]at m;cases m;exact .inr rfl
def sP{P:Program}(x:Y){h:Array Oper}{e:cw Oper}{u:Oper}{A:Act}{S:Exit->Act->Y->Prop}(l:u.guard=none)(w T:Operand)(O Q:TypeId)(K:u.op=.call {callee:=.builtin .append,args:=#[w,T],argTypes:=#[O,Q]})(a:M)(n:TypeId)(t:TypeInfo)(q:P.underlying O=H (.slice n))(r:P.underlying Q=H .string)(o:P.info? n=H t)(s:t.zero=H (tL 0))(c:t.size=1)(g:t.bytes=1)(C:aa)(B:M)(m:cw aa)(L:A.eval w=C)(d:x.ownsRow a n 1 C B m)(v:ab)(N:A.eval T=aj v)(b:B+v.size<=140737488355328)(f:a<=z (G x))(V:∀i j,j.ownsRow a n 1 i (B+v.size) (m++Lib.strCells v)->eL x j C i->wpList P h S e (A.put u.dst i) j):wpList P h S (u::e) A x:=by
 refine kP l λW F=>?_;obtain⟨i,j,p,D,E,_⟩:=tJ (P:=P) x a O Q u.type n t q r o s c g C B m d v (by unfold maxLen;omega) b f;have k:=Cq q r o s c g d b p;unfold Oper.wp execOp;simp only[K,resolve,invoke,builtin,ki,pV,jm,List.map_toArray,bZ,fW,L,N,p];exact F _ _<|V i j D<|eL.of E k
def bO{P:Program}(w:Y){k:Array Oper}{e:cw Oper}{B:Oper}{A:Act}{al:Exit->Act->Y->Prop}(p:B.guard=none)(ac ad:Operand)(C:TypeId)(V:B.op=.call {callee:=.builtin .append,args:=#[ac,ad],argTypes:=#[C,C]})(a:M)(u:TypeId)(v:TypeInfo)(i:aa)(b bytes:M)(X:P.underlying C=H (.slice u))(Q:P.info? u=H v)(hz:v.zero=H i)(h:v.size=b)(o:v.bytes=bytes)(r:i.cells.size=b)(q:0<b)(E:aa)(x:M)(s:cw aa)(W:A.eval ac=E)(j:w.ownsRow a u b E x s)(n:Addr)(t an:M)(c:cw aa)(hx:A.eval ad=J (H n) t an)(S:y c=t*b)(g:∀ao D,c[ao]?=H D->aO w (n.add ao)=H D)(K:∀D∈c,D.oneCell'=bU)(hn:x+t<=140737488355328)(d:(x+t)*bytes<=140737488355328)(f:a<=z (G w))(aq:∀l m,m.ownsRow a u b l (x+t) (s++c)->eL w m E l->wpList P k al e (A.put B.dst l) m):wpList P k al (B::e) A w:=wpList_append_own_at w p ac ad C V a u v i b bytes X Q hz h o r q E x s W j n t an c hx S g K (by unfold maxLen;omega) d f λl m L N _ O=>aq l m L<|eL.of N O
def xW{b:Option M}(h:a.grownBy f b)(k:f.grownBy C b):a.grownBy C b:=h.trans k
def aT{c i:M}{u:aa}{t:TypeId}{b:M×M}(h:a.heap[c]?=H (ar V t b)):(cA a (R c i) u).heap[c]?=H (ar (V.setIfInBounds i u) t b):=by
 simp only[World.setCell,qO,h];simp
def de(w:Y)(b i:M)(u:aa):w.grownBy (cA w (R b i) u) (H b):=⟨rfl,rfl,rfl,by simp_all,λk _ a=>Below.heap_setCell w (R b i) u k<|λe=>a<|by rw[e]⟩
def tr(w:Y)(a:Option M):w.grownBy w a:=⟨rfl,rfl,rfl,ai _,λ_ _ _=>rfl⟩
theorem bL{b i:M}{t:TypeId}{c:M×M}(h:a.heap[b]?=H (ar V t c)):aO a (R b i)=V[i]?:=by simp[World.cell?,h]
def cellAt{t:TypeId}{c:M×M}(h:a.heap[b]?=H (.cells V t c))(i:M)(e:V.toList[i]?=H d):aO a (R b i)=H d:=by rw[bL h,<-e];simp
def dE{b i:M}{t:TypeId}(h:a.heap[b]?=H (ar V t (0,0))):a.frozen? (R b i)=aY:=by simp[World.frozen?,h]
theorem ia{o:Obj}(h:b<z (G a)):aO (cF a o) (R b c)=aO a (R b c):=cR (w:=a)<|Below.heap_alloc a o b h
def _root_.Go.RowKit.Below.of_heap{a w w':Y}(h:Below b a w)(e:(w'.os,w'.tape,w'.output,w'.heap)=(w.os,w.tape,w.output,w.heap)):Below b a w':=by
 simp only[ji]at e;exact⟨e.1.trans h.os,e.2.1.trans h.tape,e.2.2.1.trans h.output,by rw[e.2.2.2];exact h.size,λk d=>by rw[e.2.2.2];exact h.block k d⟩
theorem am{b:M}{o:Obj}(h:a.heap[b]?=H o):b<z (G a):=by
 by_cases c:b<z (G a);exact c;grind
