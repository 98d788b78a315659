import Derived.Lib.AppendStr
import Derived.Maps.AppendAt
import Derived.ProofKit
import Derived.WalkKit
open _root_ renaming List.length→y,Option.some→H,Array.size→z,Go.World.heap→G,Go.Value.ownBlock→cz,Go.World.cell?→aS,Go.World.setCell→cA,Go.World.alloc→cG,Bool.false→bj,Bool.true→cq,Nat→M,Int→U,List→cS,Go.Value.slice→J,Go.Value.string→am
namespace Go.Proofs.YtmnlcbeggagabaaGreatDoor
open ChangeShapes WideShapes RowKit List
set_option maxHeartbeats 16000000
set_option linter.all false
set_option maxRecDepth 100000

abbrev dt:=@Addr.add_lit
abbrev sw:=@Array.getElem?_append_left
abbrev kG:=@Array.getElem?_eq_none
abbrev nz:=@Array.getElem?_eq_some_iff
abbrev qg:=@Array.getElem?_modify
abbrev vT:=@Array.getElem?_toList
abbrev kw:=@Array.length_toList
abbrev eX:=@Array.replicate_succ
abbrev eW:=@Array.replicate_zero
abbrev tX:=@Array.setIfInBounds_comm
abbrev ny:=@Array.size_replicate
abbrev rI:=@Array.toList_append
abbrev lW:=@Bool.and_eq_true
abbrev tW:=@Bool.and_self
abbrev vO:=@Bool.eq_iff_iff
abbrev wk:=@Bool.false_and
abbrev su:=@Bool.false_eq_true
abbrev yl:=@Bool.false_or
abbrev lV:=@Bool.not_false
abbrev qK:=@Bool.not_true
abbrev ae:=ByteArray
abbrev rH:=@ByteArray.toList_eq
abbrev yE:=@Calls.mono
abbrev nj:=@Function.comp_def
abbrev qJ:=@Iff.rfl
abbrev rA:=@Int.emod_nonneg
abbrev dQ:=@Int.eq_ofNat_of_zero_le
abbrev uX:=@Int.le_trans
abbrev yj:=@Int.ofNat.inj
abbrev zr:=@Int.pow_succ
abbrev nw:=@Int.tmod_eq_emod_of_nonneg
abbrev bS:=@IntKind.wrap_i64
abbrev fi:=@IntKind.wrap_u64
abbrev tg:=@Lib.run_append_own_string
abbrev kZ:=@List.Pairwise.sublist
abbrev qf:=@List.Perm.append_left
abbrev uV:=@List.Perm.append_right
abbrev nu:=@List.Perm.refl
abbrev pF:=@List.Sublist.length_le
abbrev gN:=@List.Sublist.refl
abbrev qn:=@List.all_eq_true
abbrev nQ:=@List.any_eq_true
abbrev bz:=@List.append_assoc
abbrev tf:=@List.append_eq_append_iff
abbrev mD:=@List.append_eq_nil_iff
abbrev uU:=@List.append_inj_right'
abbrev dP:=@List.append_nil
abbrev sr:=@List.append_of_mem
abbrev ft:=@List.append_toArray
abbrev oC:=@List.cons.injEq
abbrev dl:=@List.cons_append
abbrev ml:=@List.drop_append_of_le_length
abbrev bF:=@List.drop_eq_getElem_cons
abbrev pE:=@List.drop_eq_nil_of_le
abbrev sq:=@List.drop_left
abbrev ga:=@List.drop_length
abbrev kh:=@List.drop_sublist
abbrev aQ:=@List.eq_nil_of_length_eq_zero
abbrev vS:=@List.eq_nil_or_concat
abbrev ut:=@List.eraseIdx_cons_succ
abbrev pD:=@List.exists_of_findSome?_eq_some
abbrev tC:=@List.ext_getElem?
abbrev kS:=@List.filter_append
abbrev tB:=@List.filter_congr
abbrev fh:=@List.filter_cons_of_neg
abbrev iq:=@List.filter_cons_of_pos
abbrev iE:=@List.filter_eq_nil_iff
abbrev fX:=@List.filter_eq_self
abbrev eS:=@List.filter_sublist
abbrev mB:=@List.find?_eq_none
abbrev vN:=@List.find?_some
abbrev fW:=@List.flatMap_append
abbrev dJ:=@List.flatMap_cons
abbrev ur:=@List.flatMap_nil
abbrev eK:=@List.flatten_append
abbrev bP:=@List.flatten_cons
abbrev iD:=@List.flatten_nil
abbrev fM:=@List.foldl_append
abbrev fj:=@List.foldl_cons
abbrev so:=@List.getD_eq_getElem?_getD
abbrev gT:=@List.getElem?_append_left
abbrev eV:=@List.getElem?_append_right
abbrev uq:=@List.getElem?_cons_succ
abbrev aO:=@List.getElem?_eq_getElem
abbrev qe:=@List.getElem?_eq_none
abbrev jv:=@List.getElem?_eq_some_iff
abbrev fc:=@List.getElem?_map
abbrev gl:=@List.getElem?_set_ne
abbrev io:=@List.getElem?_set_self'
abbrev oG:=@List.getElem?_take
abbrev ot:=@List.getElem?_take_of_lt
abbrev qd:=@List.getElem?_toArray
abbrev tT:=@List.getElem_append_left
abbrev td:=@List.getElem_append_right
abbrev kF:=@List.getElem_cons_drop
abbrev cr:=@List.getElem_cons_succ
abbrev cy:=@List.getElem_cons_zero
abbrev kg:=@List.getElem_drop
abbrev jz:=@List.getElem_map
abbrev ak:=@List.getElem_mem
abbrev dS:=@List.getElem_of_mem
abbrev lU:=@List.getElem_set
abbrev qc:=@List.getElem_set_self
abbrev gM:=@List.getElem_take
abbrev cQ:=@List.getElem_toArray
abbrev qm:=@List.isEmpty_nil
abbrev ag:=@List.length_append
abbrev aW:=@List.length_cons
abbrev ic:=@List.length_drop
abbrev fQ:=@List.length_filter_le
abbrev rG:=@List.length_flatten
abbrev df:=@List.length_map
abbrev eD:=@List.length_nil
abbrev gD:=@List.length_pos_iff
abbrev gX:=@List.length_set
abbrev dj:=@List.length_take
abbrev rF:=@List.length_take_le
abbrev aN:=@List.map_append
abbrev nZ:=@List.map_congr_left
abbrev bV:=@List.map_cons
abbrev iC:=@List.map_eq_append_iff
abbrev nt:=@List.map_eq_cons_iff
abbrev wi:=@List.map_id
abbrev oF:=@List.map_inj_right
abbrev iR:=@List.map_map
abbrev gC:=@List.map_nil
abbrev uo:=@List.map_reverse
abbrev pC:=@List.map_set
abbrev aE:=@List.mem_append
abbrev jU:=@List.mem_append_left
abbrev kY:=@List.mem_append_right
abbrev bD:=@List.mem_cons
abbrev dD:=@List.mem_cons_of_mem
abbrev mz:=@List.mem_cons_self
abbrev dC:=@List.mem_filter
abbrev nP:=@List.mem_flatMap
abbrev bB:=@List.mem_flatten
abbrev gQ:=@List.mem_iff_getElem
abbrev bJ:=@List.mem_map
abbrev nY:=@List.mem_map_of_mem
abbrev li:=@List.mem_of_find?_eq_some
abbrev ew:=@List.mem_of_getElem?
abbrev dI:=@List.mem_of_mem_drop
abbrev dV:=@List.mem_of_mem_take
abbrev nr:=@List.mem_range
abbrev lT:=@List.mem_reverse
abbrev dA:=@List.mem_singleton
abbrev qa:=@List.modify_succ_cons
abbrev pZ:=@List.modify_zero_cons
abbrev de:=@List.nil_append
abbrev jf:=@List.nodup_append
abbrev kr:=@List.nodup_cons
abbrev gZ:=@List.not_mem_nil
abbrev bQ:=@List.pairwise_append
abbrev bA:=@List.pairwise_cons
abbrev cJ:=@List.pairwise_iff_getElem
abbrev ke:=@List.pairwise_map
abbrev pY:=@List.perm_append_comm
abbrev um:=@List.perm_middle
abbrev gh:=@List.push_toArray
abbrev tA:=@List.reverse_cons
abbrev tz:=@List.reverse_perm
abbrev cP:=@List.setIfInBounds_toArray
abbrev gy:=@List.set_append_right
abbrev dR:=@List.set_cons_succ
abbrev ee:=@List.set_cons_zero
abbrev gY:=@List.set_eq_take_append_cons_drop
abbrev jw:=@List.singleton_append
abbrev uT:=@List.singleton_sublist
abbrev gd:=@List.size_toArray
abbrev oq:=@List.sublist_append_left
abbrev gS:=@List.sublist_append_right
abbrev cV:=@List.sublist_flatten_of_mem
abbrev gG:=@List.sum_append
abbrev qI:=@List.sum_cons
abbrev bY:=@List.take_append_drop
abbrev fV:=@List.take_append_of_le_length
abbrev pB:=@List.take_left
abbrev oB:=@List.take_left'
abbrev bN:=@List.take_length
abbrev dp:=@List.take_of_length_le
abbrev ni:=@List.take_sublist
abbrev rE:=@List.take_succ_cons
abbrev aj:=@List.take_succ_eq_append_getElem
abbrev wh:=@List.take_take
abbrev wg:=@List.take_zero
abbrev oE:=@MapKept.heap_alloc
abbrev fH:=@MapKept.heap_set
abbrev eM:=@MapKept.run_checkKey
abbrev eJ:=@MapKept.run_findKey
abbrev je:=@MapKept.run_getObj_map
abbrev oo:=@MapKept.run_keyThatStays
abbrev fB:=@MapKept.run_setObj_map
abbrev pX:=@MapKept.stamped_empty
abbrev vR:=@MapKept.stamped_erase
abbrev pA:=@MapKept.stamped_modify
abbrev qW:=@MapKept.stamped_push
abbrev bG:=@Nat.add_assoc
abbrev zq:=@Nat.add_comm
abbrev we:=@Nat.add_mul
abbrev ul:=@Nat.add_sub_cancel_left
abbrev lz:=@Nat.add_zero
abbrev gp:=@Nat.eq_zero_or_pos
abbrev ai:=@Nat.le_refl
abbrev aB:=@Nat.le_trans
abbrev kI:=@Nat.lt_irrefl
abbrev ah:=@Nat.lt_of_lt_of_le
abbrev my:=@Nat.lt_or_eq_of_le
abbrev gB:=@Nat.lt_or_ge
abbrev tR:=@Nat.lt_succ_iff_lt_or_eq
abbrev nh:=@Nat.lt_trichotomy
abbrev ru:=@Nat.min_eq_left
abbrev yD:=@Nat.mod_lt
abbrev jT:=@Nat.mul_le_mul_right
abbrev qV:=@Nat.mul_one
abbrev gF:=@Nat.not_lt_zero
abbrev sZ:=@Nat.shiftRight_eq_div_pow
abbrev sk:=@Nat.shiftRight_xor_distrib
abbrev zp:=@Nat.sub_self
abbrev dr:=@Nat.zero_add
abbrev bH:=@Nat.zero_le
abbrev zo:=@Nat.zero_mul
abbrev zn:=@Nat.zero_xor
abbrev kO:=@Option.getD_some
abbrev uS:=@Option.map_eq_some_iff
abbrev lS:=@Option.none_or
abbrev sj:=@Option.or_none
abbrev gW:=@Option.some.inj
abbrev tw:=@Option.some.injEq
abbrev jb:=@Prod.mk.injEq
abbrev jZ:=@Result.andThen_ok
abbrev kE:=@Sem.run_bind
abbrev rP:=@Sem.run_pure
abbrev wb:=@Sum.inl.inj
abbrev ab:=Value
abbrev Z:=World
abbrev cW:=@World.block_lt_of_cell?
abbrev cF:=@World.cell?_alloc_lt
abbrev pz:=@World.cell?_alloc_past
abbrev bI:=@World.cell?_drew
abbrev da:=@World.cell?_of_block
abbrev sY:=@World.cell?_setCell_same'
abbrev gI:=@World.frozen?_alloc_old
abbrev dy:=@World.grownBy_alloc
abbrev aX:=@World.ownsRow.alloc
abbrev bM:=@World.ownsRow.lt
abbrev qU:=@World.ownsRow.stored
abbrev cO:=@World.ownsRow_nil
abbrev wa:=@and_true
abbrev lQ:=@beq_eq_false_iff_ne
abbrev yC:=@bne_iff_ne
abbrev zm:=@bodyPost_end
abbrev ci:=@bodyPost_ret
abbrev tQ:=@callsIn_of_wp
abbrev dU:=@callsIn_wide
abbrev py:=@cell_one_new
abbrev bR:=@congrArg
abbrev vZ:=@decide_eq_true
abbrev pu:=@decide_eq_true_eq
abbrev zl:=@decide_false
abbrev qT:=@decide_true
abbrev zk:=@dif_pos
abbrev si:=@growslice_fits
abbrev jd:=@heap_alloc_new
abbrev np:=@if_false
abbrev eI:=@if_neg
abbrev dW:=@if_pos
abbrev ly:=@if_true
abbrev cU:=@info_parts
abbrev jr:=@leaves_cons
abbrev xE:=@mem_ready
abbrev tv:=@of_decide_eq_true
abbrev ol:=@or_false
abbrev sh:=@ready_mono
abbrev jc:=@results_none
abbrev jS:=@results_tmp
abbrev uR:=@results_tmp2
abbrev nN:=@results_tmp3
abbrev fU:=@rounds_succ
abbrev ng:=@run_append_own_at
abbrev cY:=@run_callFunc_extern
abbrev uQ:=@run_convert_bytes_back
abbrev kq:=@run_loadVar_row
abbrev qS:=@run_makeMap
abbrev ep:=@run_underlying
abbrev tu:=@setRow_heap
abbrev rO:=@setRow_other
abbrev rZ:=@wpIn_wide
abbrev vY:=@wpListIn_plain
abbrev kp:=@wpList_make_own
abbrev kD:=@wpList_plain
abbrev xD:=@wpOp_mono
abbrev gH:=@wp_loop_rounds
abbrev yi:=@wp_region_any
abbrev eT:=M->Prop
abbrev iI:=cS ab
abbrev dO:=cS U
abbrev R(b i:M):Addr:=⟨b,i,none⟩
abbrev aA(b:M):ab:=.pointer<|H ⟨b,0,none⟩
abbrev aY(b i n c:M):ab:=.slice (H ⟨b,i,none⟩) n c
abbrev aw:ab:=.slice none 0 0
abbrev az{α:Type}:α->Prop:=λ_=>False
abbrev aq:=Value.int .i64
abbrev aG:=Value.int .u64
abbrev dh:=Value.int .u32
abbrev qX:=Value.int .u8
abbrev lY:=Value.int .i32
abbrev ay:=@Obj.cells
abbrev aJ:=@Ending.returned
variable{a f B:Z}{b c:M}{d u P:ab}{v:ae}{Q:Prop}{W:Type}
def Y{p:Prop}(h:p):Hid p:=h
theorem af{p:Prop}(h:Hid p):p:=h
def cC{p:W->Prop}(k:W)(h:az k):p k:=h.elim
def mj{β γ:Type}{p:W->β->γ->Prop}(a:W)(b:β)(c:γ)(h:p a b c):p a b c:=h
def Fe{a:W}(h:a≠a):Q:=(h rfl).elim
def dz{a c:Prop}(d:Q)(e:a)(g:c):Hid Q/\Hid a/\Hid c:=⟨d,e,g⟩
def fY{a b c:Prop}(d:Q)(e:a)(g:b)(h:c):Hid Q/\Hid a/\Hid b/\Hid c:=⟨d,e,g,h⟩
def jm{a b c d:Prop}(e:Q)(g:a)(h:b)(i:c)(j:d):Hid Q/\Hid a/\Hid b/\Hid c/\Hid d:=⟨e,g,h,i,j⟩
def lf{a c d e f:Prop}(g:Q)(h:a)(i:c)(j:d)(k:e)(l:f):Hid Q/\Hid a/\Hid c/\Hid d/\Hid e/\Hid f:=⟨g,h,i,j,k,l⟩
def yu{a b c d e g:Prop}(h:Q)(i:a)(j:b)(k:c)(l:d)(m:e)(n:g):Hid Q/\Hid a/\Hid b/\Hid c/\Hid d/\Hid e/\Hid g:=⟨h,i,j,k,l,m,n⟩
def Cf{a b c d e f g:Prop}(h:Q)(i:a)(j:b)(k:c)(l:d)(m:e)(n:f)(o:g):Hid Q/\Hid a/\Hid b/\Hid c/\Hid d/\Hid e/\Hid f/\Hid g:=⟨h,i,j,k,l,m,n,o⟩
def wZ{a b c d e f g h:Prop}(i:Q)(j:a)(k:b)(l:c)(m:d)(n:e)(o:f)(p:g)(q:h):Hid Q/\Hid a/\Hid b/\Hid c/\Hid d/\Hid e/\Hid f/\Hid g/\Hid h:=⟨i,j,k,l,m,n,o,p,q⟩
structure eC(w w':Z)(v v':ab):Prop where
 grown:w.grownBy w' (cz v)
 uk:cz v'=cz v\/∃g,cz v'=H g/\z (G w)<=g
theorem eC.refl(w:Z)(v:ab):eC w w v v:=⟨⟨rfl,rfl,rfl,ai _,λ_ _ _=>rfl⟩,.inl rfl⟩
def eC.trans{i b j:Z}(h:eC i b d u)(k:eC b j u P):eC i j d P:=by
 refine⟨⟨k.grown.os.trans h.grown.os,k.grown.tape.trans h.grown.tape,k.grown.output.trans h.grown.output,aB h.grown.size k.grown.size,λl a g=>?_⟩,?_⟩;refine(k.grown.block l (ah a h.grown.size) ?_).trans<|h.grown.block l a g;grind[eC.uk]
 rcases k.uk with e|⟨m,e,c⟩;rw[e];exact h.uk;exact .inr ⟨m,e,aB h.grown.size c⟩
def eC.alloc(o:Obj)(h:eC (a.alloc o) B d u):eC a B d u:=by
 refine⟨(dy a o<|cz d).trans h.grown,?_⟩;rcases h.uk with e|⟨g,e,b⟩;exact .inl e;exact .inr ⟨g,e,by simp at b;omega⟩
def eC.below(h:eC a f d u){B:M}(b:B<=z (G a))(c:∀k,cz d=H k->B<=k):Below B a f:=(Below.refl B a).grown h.grown b c
def eC.of(h:a.grownBy f (cz d))(b:cz u=cz d\/cz u=H (z<|G a)):eC a f d u:=⟨h,b.imp id λe=>⟨_,e,ai _⟩⟩
def Bz{P:Program}{F t p x:TypeId}{A:TypeInfo}(r:P.underlying F=H (.slice x))(s:P.underlying t=H .string)(q:P.info? x=H A)(E:A.zero=H (qX 0))(e:A.size=1)(k:A.bytes=1){w:cS ab}(i:a.ownsRow b x 1 d c w)(h:c+v.size<=140737488355328)(m:(Builtin.append_ #[F,t] p #[d,am v]).run P a=.ok u f):cz u=cz d\/cz u=H (z<|G a):=by
 rcases i.2 with⟨rfl,rfl⟩|⟨K,g,o,rfl,L,O,Q,N,B,C⟩;by_cases n:v.size=0;(obtain⟨S,l,j,_,_,D⟩:=tg (P:=P) a 0 F t p x A r s q E e k aw 0 [] (cO a 0 x 1) v (by grind) h<|bH _;rw[j]at m;grind);have j:=run_append_nil_string (P:=P) a F t p x A (qX 0) r s q E v (by omega) (by omega) (by rw[k];omega);rw[j]at m;cases m;exact .inr rfl;by_cases n:c+v.size<=g;(have l:o.size=g:=by simpa using B);have j:=Lib.run_append_room_string (P:=P) a F t p x A r s q e K c g o O v n (by omega);rw[j]at m;cases m;exact .inl rfl;have l:∀j t,w[j]?=H t->aS a (((R K 0):Addr).add j)=H t:=i.cells (g:=K) rfl;(have D:y w=c:=by grind);have j:=Lib.run_append_grow_string (P:=P) a F t p x A (qX 0) r s q E (R K 0) c g w (by rw[e];simpa using D) l v (by omega) (by omega) (by rw[k];exact si (by omega)<|by omega);rw[j]at m;cases m;exact .inr rfl
def sy{P:Program}(x:Z){h:Array Oper}{e:cS Oper}{u:Oper}{A:Act}{S:Exit->Act->Z->Prop}(l:u.guard=none)(w T:Operand)(O Q:TypeId)(K:u.op=.call {callee:=.builtin .append,args:=#[w,T],argTypes:=#[O,Q]})(a:M)(n:TypeId)(t:TypeInfo)(q:P.underlying O=H (.slice n))(r:P.underlying Q=H .string)(o:P.info? n=H t)(s:t.zero=H (qX 0))(c:t.size=1)(g:t.bytes=1)(C:ab)(B:M)(m:cS ab)(L:A.eval w=C)(d:x.ownsRow a n 1 C B m)(v:ae)(N:A.eval T=am v)(b:B+v.size<=140737488355328)(f:a<=z (G x))(V:∀i j,j.ownsRow a n 1 i (B+v.size) (m++Lib.strCells v)->eC x j C i->wpList P h S e (A.put u.dst i) j):wpList P h S (u::e) A x:=by
 refine kD l λW F=>?_;obtain⟨i,j,p,D,E,_⟩:=tg (P:=P) x a O Q u.type n t q r o s c g C B m d v (by unfold maxLen;omega) b f;have k:=Bz q r o s c g d b p;unfold Oper.wp execOp;simp only[K,resolve,invoke,builtin,kE,rP,jZ,List.map_toArray,bV,gC,L,N,p];exact F _ _<|V i j D<|eC.of E k
def ct{P:Program}(w:Z){k:Array Oper}{e:cS Oper}{B:Oper}{A:Act}{ad:Exit->Act->Z->Prop}(p:B.guard=none)(aa ac:Operand)(C:TypeId)(V:B.op=.call {callee:=.builtin .append,args:=#[aa,ac],argTypes:=#[C,C]})(a:M)(u:TypeId)(v:TypeInfo)(i:ab)(b bytes:M)(X:P.underlying C=H (.slice u))(Q:P.info? u=H v)(hz:v.zero=H i)(h:v.size=b)(o:v.bytes=bytes)(r:i.cells.size=b)(q:0<b)(E:ab)(x:M)(s:cS ab)(W:A.eval aa=E)(j:w.ownsRow a u b E x s)(n:Addr)(t al:M)(c:cS ab)(hx:A.eval ac=J (H n) t al)(S:y c=t*b)(g:∀an D,c[an]?=H D->aS w (n.add an)=H D)(K:∀D∈c,D.oneCell'=cq)(hn:x+t<=140737488355328)(d:(x+t)*bytes<=140737488355328)(f:a<=z (G w))(ao:∀l m,m.ownsRow a u b l (x+t) (s++c)->eC w m E l->wpList P k ad e (A.put B.dst l) m):wpList P k ad (B::e) A w:=wpList_append_own_at w p aa ac C V a u v i b bytes X Q hz h o r q E x s W j n t al c hx S g K (by unfold maxLen;omega) d f λl m L N _ O=>ao l m L<|eC.of N O
def KZ{b:Option M}(h:a.grownBy f b)(k:f.grownBy B b):a.grownBy B b:=h.trans k
def aL{d i:M}{u:ab}{b:Array ab}{t:TypeId}{c:M×M}(h:a.heap[d]?=H (ay b t c)):(cA a (R d i) u).heap[d]?=H (ay (b.setIfInBounds i u) t c):=by
 simp only[World.setCell,qg,h];simp
def du(w:Z)(b i:M)(u:ab):w.grownBy (cA w (R b i) u) (H b):=⟨rfl,rfl,rfl,by simp_all,λk _ a=>Below.heap_setCell w (R b i) u k<|λe=>a<|by rw[e]⟩
def Ej(w:Z)(a:Option M):w.grownBy w a:=⟨rfl,rfl,rfl,ai _,λ_ _ _=>rfl⟩
theorem bW{b i:M}{c:Array ab}{t:TypeId}{d:M×M}(h:a.heap[b]?=H (ay c t d)):aS a (R b i)=c[i]?:=by simp[World.cell?,h]
def cellAt{c:Array ab}{t:TypeId}{e:M×M}(h:a.heap[b]?=H (.cells c t e))(i:M)(f:c.toList[i]?=H d):aS a (R b i)=H d:=by rw[bW h,<-f];simp
def cZ{c i:M}{b:Array ab}{t:TypeId}(h:a.heap[c]?=H (ay b t (0,0))):a.frozen? (R c i)=bj:=by simp[World.frozen?,h]
def fp{o:Obj}(h:b<z (G a)):aS (cG a o) (R b c)=aS a (R b c):=da (w:=a)<|Below.heap_alloc a o b h
def _root_.Go.RowKit.Below.of_heap{a w w':Z}(h:Below b a w)(e:(w'.os,w'.tape,w'.output,w'.heap)=(w.os,w.tape,w.output,w.heap)):Below b a w':=by
 simp only[jb]at e;exact⟨e.1.trans h.os,e.2.1.trans h.tape,e.2.2.1.trans h.output,by rw[e.2.2.2];exact h.size,λk d=>by rw[e.2.2.2];exact h.block k d⟩
theorem ar{b:M}{o:Obj}(h:a.heap[b]?=H o):b<z (G a):=by
 by_cases c:b<z (G a);exact c;grind
