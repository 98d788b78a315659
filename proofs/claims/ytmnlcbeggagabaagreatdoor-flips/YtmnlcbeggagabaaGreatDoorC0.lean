import Derived.Lib.AppendStr
import Derived.Maps.AppendAt
import Derived.ProofKit
import Derived.WalkKit
open _root_ renaming List.length→y,Option.some→H,Array.size→z,Go.World.heap→G,Go.Value.ownBlock→cz,Go.World.cell?→aS,Go.World.setCell→cA,Go.World.alloc→cG,Bool.false→bj,Bool.true→ci,Nat→M,Int→U,List→cS,Go.Value.slice→J,Go.Value.string→am
namespace Go.Proofs.YtmnlcbeggagabaaGreatDoor
open ChangeShapes WideShapes RowKit List
set_option maxHeartbeats 16000000
set_option linter.all false
set_option maxRecDepth 100000

abbrev dt:=@Addr.add_lit
abbrev sr:=@Array.getElem?_append_left
abbrev kD:=@Array.getElem?_eq_none
abbrev nu:=@Array.getElem?_eq_some_iff
abbrev qe:=@Array.getElem?_modify
abbrev vS:=@Array.getElem?_toList
abbrev kq:=@Array.length_toList
abbrev eX:=@Array.replicate_succ
abbrev eW:=@Array.replicate_zero
abbrev tW:=@Array.setIfInBounds_comm
abbrev nt:=@Array.size_replicate
abbrev rG:=@Array.toList_append
abbrev lS:=@Bool.and_eq_true
abbrev tT:=@Bool.and_self
abbrev vN:=@Bool.eq_iff_iff
abbrev wi:=@Bool.false_and
abbrev sq:=@Bool.false_eq_true
abbrev yj:=@Bool.false_or
abbrev lR:=@Bool.not_false
abbrev qI:=@Bool.not_true
abbrev ae:=ByteArray
abbrev rF:=@ByteArray.toList_eq
abbrev yD:=@Calls.mono
abbrev ng:=@Function.comp_def
abbrev qH:=@Iff.rfl
abbrev rq:=@Int.emod_nonneg
abbrev dP:=@Int.eq_ofNat_of_zero_le
abbrev uV:=@Int.le_trans
abbrev yi:=@Int.ofNat.inj
abbrev zq:=@Int.pow_succ
abbrev nr:=@Int.tmod_eq_emod_of_nonneg
abbrev bS:=@IntKind.wrap_i64
abbrev fi:=@IntKind.wrap_u64
abbrev td:=@Lib.run_append_own_string
abbrev kV:=@List.Pairwise.sublist
abbrev qd:=@List.Perm.append_left
abbrev uU:=@List.Perm.append_right
abbrev np:=@List.Perm.refl
abbrev pE:=@List.Sublist.length_le
abbrev pD:=@List.Sublist.refl
abbrev qm:=@List.all_eq_true
abbrev nM:=@List.any_eq_true
abbrev bz:=@List.append_assoc
abbrev sZ:=@List.append_eq_append_iff
abbrev my:=@List.append_eq_nil_iff
abbrev uT:=@List.append_inj_right'
abbrev dO:=@List.append_nil
abbrev so:=@List.append_of_mem
abbrev fq:=@List.append_toArray
abbrev oz:=@List.cons.injEq
abbrev dl:=@List.cons_append
abbrev mf:=@List.drop_append_of_le_length
abbrev bD:=@List.drop_eq_getElem_cons
abbrev pC:=@List.drop_eq_nil_of_le
abbrev sk:=@List.drop_left
abbrev fZ:=@List.drop_length
abbrev jZ:=@List.drop_sublist
abbrev aP:=@List.eq_nil_of_length_eq_zero
abbrev vR:=@List.eq_nil_or_concat
abbrev ur:=@List.eraseIdx_cons_succ
abbrev pB:=@List.exists_of_findSome?_eq_some
abbrev tA:=@List.ext_getElem?
abbrev mw:=@List.filter_append
abbrev tz:=@List.filter_congr
abbrev fh:=@List.filter_cons_of_neg
abbrev ik:=@List.filter_cons_of_pos
abbrev iB:=@List.filter_eq_nil_iff
abbrev fW:=@List.filter_eq_self
abbrev eS:=@List.filter_sublist
abbrev mu:=@List.find?_eq_none
abbrev vM:=@List.find?_some
abbrev fV:=@List.flatMap_append
abbrev dI:=@List.flatMap_cons
abbrev uq:=@List.flatMap_nil
abbrev eK:=@List.flatten_append
abbrev bO:=@List.flatten_cons
abbrev iA:=@List.flatten_nil
abbrev fK:=@List.foldl_append
abbrev gD:=@List.foldl_cons
abbrev sj:=@List.getD_eq_getElem?_getD
abbrev gP:=@List.getElem?_append_left
abbrev eV:=@List.getElem?_append_right
abbrev uo:=@List.getElem?_cons_succ
abbrev aN:=@List.getElem?_eq_getElem
abbrev qc:=@List.getElem?_eq_none
abbrev jt:=@List.getElem?_eq_some_iff
abbrev fc:=@List.getElem?_map
abbrev gh:=@List.getElem?_set_ne
abbrev ij:=@List.getElem?_set_self'
abbrev oD:=@List.getElem?_take
abbrev ol:=@List.getElem?_take_of_lt
abbrev tR:=@List.getElem_append_left
abbrev sY:=@List.getElem_append_right
abbrev kC:=@List.getElem_cons_drop
abbrev cq:=@List.getElem_cons_succ
abbrev cy:=@List.getElem_cons_zero
abbrev pA:=@List.getElem_drop
abbrev kL:=@List.getElem_map
abbrev ak:=@List.getElem_mem
abbrev dR:=@List.getElem_of_mem
abbrev lQ:=@List.getElem_set
abbrev qa:=@List.getElem_set_self
abbrev jY:=@List.getElem_take
abbrev cQ:=@List.getElem_toArray
abbrev ql:=@List.isEmpty_nil
abbrev ag:=@List.length_append
abbrev aW:=@List.length_cons
abbrev gX:=@List.length_drop
abbrev fP:=@List.length_filter_le
abbrev rE:=@List.length_flatten
abbrev df:=@List.length_map
abbrev eD:=@List.length_nil
abbrev gB:=@List.length_pos_iff
abbrev gU:=@List.length_set
abbrev dj:=@List.length_take
abbrev rD:=@List.length_take_le
abbrev aR:=@List.map_append
abbrev nW:=@List.map_congr_left
abbrev cr:=@List.map_cons
abbrev iz:=@List.map_eq_append_iff
abbrev nn:=@List.map_eq_cons_iff
abbrev wh:=@List.map_id
abbrev oC:=@List.map_inj_right
abbrev iP:=@List.map_map
abbrev gQ:=@List.map_nil
abbrev um:=@List.map_reverse
abbrev pz:=@List.map_set
abbrev aG:=@List.mem_append
abbrev jR:=@List.mem_append_left
abbrev kU:=@List.mem_append_right
abbrev bR:=@List.mem_cons
abbrev dC:=@List.mem_cons_of_mem
abbrev mr:=@List.mem_cons_self
abbrev dY:=@List.mem_filter
abbrev nL:=@List.mem_flatMap
abbrev bB:=@List.mem_flatten
abbrev gM:=@List.mem_iff_getElem
abbrev bM:=@List.mem_map
abbrev nV:=@List.mem_map_of_mem
abbrev la:=@List.mem_of_find?_eq_some
abbrev ew:=@List.mem_of_getElem?
abbrev dH:=@List.mem_of_mem_drop
abbrev dU:=@List.mem_of_mem_take
abbrev nk:=@List.mem_range
abbrev qj:=@List.mem_reverse
abbrev dA:=@List.mem_singleton
abbrev pZ:=@List.modify_succ_cons
abbrev pY:=@List.modify_zero_cons
abbrev de:=@List.nil_append
abbrev jd:=@List.nodup_append
abbrev km:=@List.nodup_cons
abbrev gW:=@List.not_mem_nil
abbrev bP:=@List.pairwise_append
abbrev bA:=@List.pairwise_cons
abbrev cJ:=@List.pairwise_iff_getElem
abbrev jX:=@List.pairwise_map
abbrev pX:=@List.perm_append_comm
abbrev ul:=@List.perm_middle
abbrev gd:=@List.push_toArray
abbrev tw:=@List.reverse_cons
abbrev tv:=@List.reverse_perm
abbrev cP:=@List.setIfInBounds_toArray
abbrev gw:=@List.set_append_right
abbrev dQ:=@List.set_cons_succ
abbrev ee:=@List.set_cons_zero
abbrev gV:=@List.set_eq_take_append_cons_drop
abbrev ju:=@List.singleton_append
abbrev uS:=@List.singleton_sublist
abbrev ga:=@List.size_toArray
abbrev oh:=@List.sublist_append_left
abbrev gO:=@List.sublist_append_right
abbrev cV:=@List.sublist_flatten_of_mem
abbrev iO:=@List.sum_append
abbrev tQ:=@List.sum_cons
abbrev bX:=@List.take_append_drop
abbrev fU:=@List.take_append_of_le_length
abbrev py:=@List.take_left
abbrev ow:=@List.take_left'
abbrev bL:=@List.take_length
abbrev dp:=@List.take_of_length_le
abbrev mZ:=@List.take_sublist
abbrev rC:=@List.take_succ_cons
abbrev aj:=@List.take_succ_eq_append_getElem
abbrev wg:=@List.take_take
abbrev we:=@List.take_zero
abbrev oB:=@MapKept.heap_alloc
abbrev fG:=@MapKept.heap_set
abbrev eM:=@MapKept.run_checkKey
abbrev eJ:=@MapKept.run_findKey
abbrev jc:=@MapKept.run_getObj_map
abbrev og:=@MapKept.run_keyThatStays
abbrev fA:=@MapKept.run_setObj_map
abbrev pW:=@MapKept.stamped_empty
abbrev vQ:=@MapKept.stamped_erase
abbrev pu:=@MapKept.stamped_modify
abbrev qU:=@MapKept.stamped_push
abbrev bF:=@Nat.add_assoc
abbrev zp:=@Nat.add_comm
abbrev wb:=@Nat.add_mul
abbrev uk:=@Nat.add_sub_cancel_left
abbrev lq:=@Nat.add_zero
abbrev gm:=@Nat.eq_zero_or_pos
abbrev ai:=@Nat.le_refl
abbrev aB:=@Nat.le_trans
abbrev kF:=@Nat.lt_irrefl
abbrev ah:=@Nat.lt_of_lt_of_le
abbrev mq:=@Nat.lt_or_eq_of_le
abbrev gA:=@Nat.lt_or_ge
abbrev tP:=@Nat.lt_succ_iff_lt_or_eq
abbrev mY:=@Nat.lt_trichotomy
abbrev rp:=@Nat.min_eq_left
abbrev yC:=@Nat.mod_lt
abbrev jQ:=@Nat.mul_le_mul_right
abbrev qT:=@Nat.mul_one
abbrev gC:=@Nat.not_lt_zero
abbrev sX:=@Nat.shiftRight_eq_div_pow
abbrev si:=@Nat.shiftRight_xor_distrib
abbrev zo:=@Nat.sub_self
abbrev dr:=@Nat.zero_add
abbrev bG:=@Nat.zero_le
abbrev zn:=@Nat.zero_mul
abbrev zm:=@Nat.zero_xor
abbrev lP:=@Option.getD_some
abbrev uR:=@Option.map_eq_some_iff
abbrev lO:=@Option.none_or
abbrev sh:=@Option.or_none
abbrev gT:=@Option.some.inj
abbrev tu:=@Option.some.injEq
abbrev iZ:=@Prod.mk.injEq
abbrev jW:=@Result.andThen_ok
abbrev kB:=@Sem.run_bind
abbrev rN:=@Sem.run_pure
abbrev wa:=@Sum.inl.inj
abbrev ab:=Value
abbrev Z:=World
abbrev cW:=@World.block_lt_of_cell?
abbrev cF:=@World.cell?_alloc_lt
abbrev pt:=@World.cell?_alloc_past
abbrev bH:=@World.cell?_drew
abbrev da:=@World.cell?_of_block
abbrev sW:=@World.cell?_setCell_same'
abbrev gG:=@World.frozen?_alloc_old
abbrev dy:=@World.grownBy_alloc
abbrev aX:=@World.ownsRow.alloc
abbrev bK:=@World.ownsRow.lt
abbrev qS:=@World.ownsRow.stored
abbrev cO:=@World.ownsRow_nil
abbrev vZ:=@and_true
abbrev lM:=@beq_eq_false_iff_ne
abbrev yB:=@bne_iff_ne
abbrev zl:=@bodyPost_end
abbrev cg:=@bodyPost_ret
abbrev tN:=@callsIn_of_wp
abbrev dS:=@callsIn_wide
abbrev pq:=@cell_one_new
abbrev bQ:=@congrArg
abbrev vY:=@decide_eq_true
abbrev po:=@decide_eq_true_eq
abbrev zk:=@decide_false
abbrev qR:=@decide_true
abbrev zj:=@dif_pos
abbrev sg:=@growslice_fits
abbrev jb:=@heap_alloc_new
abbrev nj:=@if_false
abbrev eI:=@if_neg
abbrev dV:=@if_pos
abbrev lk:=@if_true
abbrev cU:=@info_parts
abbrev jp:=@leaves_cons
abbrev xD:=@mem_ready
abbrev tr:=@of_decide_eq_true
abbrev oe:=@or_false
abbrev se:=@ready_mono
abbrev ja:=@results_none
abbrev jP:=@results_tmp
abbrev uQ:=@results_tmp2
abbrev nJ:=@results_tmp3
abbrev fT:=@rounds_succ
abbrev mX:=@run_append_own_at
abbrev cY:=@run_callFunc_extern
abbrev uP:=@run_convert_bytes_back
abbrev kj:=@run_loadVar_row
abbrev qQ:=@run_makeMap
abbrev ep:=@run_underlying
abbrev tq:=@setRow_heap
abbrev rL:=@setRow_other
abbrev rX:=@wpIn_wide
abbrev vX:=@wpListIn_plain
abbrev ki:=@wpList_make_own
abbrev kA:=@wpList_plain
abbrev xC:=@wpOp_mono
abbrev gF:=@wp_loop_rounds
abbrev yh:=@wp_region_any
abbrev eT:=M->Prop
abbrev iF:=cS ab
abbrev dN:=cS U
abbrev R(b i:M):Addr:=⟨b,i,none⟩
abbrev aA(b:M):ab:=.pointer<|H ⟨b,0,none⟩
abbrev aY(b i n c:M):ab:=.slice (H ⟨b,i,none⟩) n c
abbrev aw:ab:=.slice none 0 0
abbrev az{α:Type}:α->Prop:=λ_=>False
abbrev aq:=Value.int .i64
abbrev aE:=Value.int .u64
abbrev dh:=Value.int .u32
abbrev qV:=Value.int .u8
abbrev lU:=Value.int .i32
abbrev ay:=@Obj.cells
abbrev aJ:=@Ending.returned
variable{a f B:Z}{b c:M}{d u P:ab}{v:ae}{Q:Prop}{W:Type}
def Y{p:Prop}(h:p):Hid p:=h
theorem af{p:Prop}(h:Hid p):p:=h
def cC{p:W->Prop}(k:W)(h:az k):p k:=h.elim
def ma{β γ:Type}{p:W->β->γ->Prop}(a:W)(b:β)(c:γ)(h:p a b c):p a b c:=h
def Fc{a:W}(h:a≠a):Q:=(h rfl).elim
def dz{a c:Prop}(d:Q)(e:a)(g:c):Hid Q/\Hid a/\Hid c:=⟨d,e,g⟩
def fX{a b c:Prop}(d:Q)(e:a)(g:b)(h:c):Hid Q/\Hid a/\Hid b/\Hid c:=⟨d,e,g,h⟩
def jk{a b c d:Prop}(e:Q)(g:a)(h:b)(i:c)(j:d):Hid Q/\Hid a/\Hid b/\Hid c/\Hid d:=⟨e,g,h,i,j⟩
def kY{a c d e f:Prop}(g:Q)(h:a)(i:c)(j:d)(k:e)(l:f):Hid Q/\Hid a/\Hid c/\Hid d/\Hid e/\Hid f:=⟨g,h,i,j,k,l⟩
def yt{a b c d e g:Prop}(h:Q)(i:a)(j:b)(k:c)(l:d)(m:e)(n:g):Hid Q/\Hid a/\Hid b/\Hid c/\Hid d/\Hid e/\Hid g:=⟨h,i,j,k,l,m,n⟩
def Ce{a b c d e f g:Prop}(h:Q)(i:a)(j:b)(k:c)(l:d)(m:e)(n:f)(o:g):Hid Q/\Hid a/\Hid b/\Hid c/\Hid d/\Hid e/\Hid f/\Hid g:=⟨h,i,j,k,l,m,n,o⟩
def wY{a b c d e f g h:Prop}(i:Q)(j:a)(k:b)(l:c)(m:d)(n:e)(o:f)(p:g)(q:h):Hid Q/\Hid a/\Hid b/\Hid c/\Hid d/\Hid e/\Hid f/\Hid g/\Hid h:=⟨i,j,k,l,m,n,o,p,q⟩
structure eC(w w':Z)(v v':ab):Prop where
 grown:w.grownBy w' (cz v)
 uj:cz v'=cz v\/∃g,cz v'=H g/\z (G w)<=g
theorem eC.refl(w:Z)(v:ab):eC w w v v:=⟨⟨rfl,rfl,rfl,ai _,λ_ _ _=>rfl⟩,.inl rfl⟩
def eC.trans{i b j:Z}(h:eC i b d u)(k:eC b j u P):eC i j d P:=by
 refine⟨⟨k.grown.os.trans h.grown.os,k.grown.tape.trans h.grown.tape,k.grown.output.trans h.grown.output,aB h.grown.size k.grown.size,λl a g=>?_⟩,?_⟩;refine(k.grown.block l (ah a h.grown.size) ?_).trans<|h.grown.block l a g;grind[eC.uj]
 rcases k.uj with e|⟨m,e,c⟩;rw[e];exact h.uj;exact .inr ⟨m,e,aB h.grown.size c⟩
def eC.alloc(o:Obj)(h:eC (a.alloc o) B d u):eC a B d u:=by
 refine⟨(dy a o<|cz d).trans h.grown,?_⟩;rcases h.uj with e|⟨g,e,b⟩;exact .inl e;exact .inr ⟨g,e,by simp at b;omega⟩
def eC.below(h:eC a f d u){B:M}(b:B<=z (G a))(c:∀k,cz d=H k->B<=k):Below B a f:=(Below.refl B a).grown h.grown b c
def eC.of(h:a.grownBy f (cz d))(b:cz u=cz d\/cz u=H (z<|G a)):eC a f d u:=⟨h,b.imp id λe=>⟨_,e,ai _⟩⟩
def By{P:Program}{F t p x:TypeId}{A:TypeInfo}(r:P.underlying F=H (.slice x))(s:P.underlying t=H .string)(q:P.info? x=H A)(E:A.zero=H (qV 0))(e:A.size=1)(k:A.bytes=1){w:cS ab}(i:a.ownsRow b x 1 d c w)(h:c+v.size<=140737488355328)(m:(Builtin.append_ #[F,t] p #[d,am v]).run P a=.ok u f):cz u=cz d\/cz u=H (z<|G a):=by
 rcases i.2 with⟨rfl,rfl⟩|⟨K,g,o,rfl,L,O,Q,N,B,C⟩;by_cases n:v.size=0;(obtain⟨S,l,j,_,_,D⟩:=td (P:=P) a 0 F t p x A r s q E e k aw 0 [] (cO a 0 x 1) v (by grind) h<|bG _;rw[j]at m;grind);have j:=run_append_nil_string (P:=P) a F t p x A (qV 0) r s q E v (by omega) (by omega) (by rw[k];omega);rw[j]at m;cases m;exact .inr rfl;by_cases n:c+v.size<=g;(have l:o.size=g:=by simpa using B);have j:=Lib.run_append_room_string (P:=P) a F t p x A r s q e K c g o O v n (by omega);rw[j]at m;cases m;exact .inl rfl;have l:∀j t,w[j]?=H t->aS a (((R K 0):Addr).add j)=H t:=i.cells (g:=K) rfl;(have D:y w=c:=by grind);have j:=Lib.run_append_grow_string (P:=P) a F t p x A (qV 0) r s q E (R K 0) c g w (by rw[e];simpa using D) l v (by omega) (by omega) (by rw[k];exact sg (by omega)<|by omega);rw[j]at m;cases m;exact .inr rfl
def su{P:Program}(x:Z){h:Array Oper}{e:cS Oper}{u:Oper}{A:Act}{S:Exit->Act->Z->Prop}(l:u.guard=none)(w T:Operand)(O Q:TypeId)(K:u.op=.call {callee:=.builtin .append,args:=#[w,T],argTypes:=#[O,Q]})(a:M)(n:TypeId)(t:TypeInfo)(q:P.underlying O=H (.slice n))(r:P.underlying Q=H .string)(o:P.info? n=H t)(s:t.zero=H (qV 0))(c:t.size=1)(g:t.bytes=1)(C:ab)(B:M)(m:cS ab)(L:A.eval w=C)(d:x.ownsRow a n 1 C B m)(v:ae)(N:A.eval T=am v)(b:B+v.size<=140737488355328)(f:a<=z (G x))(V:∀i j,j.ownsRow a n 1 i (B+v.size) (m++Lib.strCells v)->eC x j C i->wpList P h S e (A.put u.dst i) j):wpList P h S (u::e) A x:=by
 refine kA l λW F=>?_;obtain⟨i,j,p,D,E,_⟩:=td (P:=P) x a O Q u.type n t q r o s c g C B m d v (by unfold maxLen;omega) b f;have k:=By q r o s c g d b p;unfold Oper.wp execOp;simp only[K,resolve,invoke,builtin,kB,rN,jW,List.map_toArray,cr,gQ,L,N,p];exact F _ _<|V i j D<|eC.of E k
def ct{P:Program}(w:Z){k:Array Oper}{e:cS Oper}{B:Oper}{A:Act}{ad:Exit->Act->Z->Prop}(p:B.guard=none)(aa ac:Operand)(C:TypeId)(V:B.op=.call {callee:=.builtin .append,args:=#[aa,ac],argTypes:=#[C,C]})(a:M)(u:TypeId)(v:TypeInfo)(i:ab)(b bytes:M)(X:P.underlying C=H (.slice u))(Q:P.info? u=H v)(hz:v.zero=H i)(h:v.size=b)(o:v.bytes=bytes)(r:i.cells.size=b)(q:0<b)(E:ab)(x:M)(s:cS ab)(W:A.eval aa=E)(j:w.ownsRow a u b E x s)(n:Addr)(t al:M)(c:cS ab)(hx:A.eval ac=J (H n) t al)(S:y c=t*b)(g:∀an D,c[an]?=H D->aS w (n.add an)=H D)(K:∀D∈c,D.oneCell'=ci)(hn:x+t<=140737488355328)(d:(x+t)*bytes<=140737488355328)(f:a<=z (G w))(ao:∀l m,m.ownsRow a u b l (x+t) (s++c)->eC w m E l->wpList P k ad e (A.put B.dst l) m):wpList P k ad (B::e) A w:=wpList_append_own_at w p aa ac C V a u v i b bytes X Q hz h o r q E x s W j n t al c hx S g K (by unfold maxLen;omega) d f λl m L N _ O=>ao l m L<|eC.of N O
def KY{b:Option M}(h:a.grownBy f b)(k:f.grownBy B b):a.grownBy B b:=h.trans k
def aL{d i:M}{u:ab}{b:Array ab}{t:TypeId}{c:M×M}(h:a.heap[d]?=H (ay b t c)):(cA a (R d i) u).heap[d]?=H (ay (b.setIfInBounds i u) t c):=by
 simp only[World.setCell,qe,h];simp
def du(w:Z)(b i:M)(u:ab):w.grownBy (cA w (R b i) u) (H b):=⟨rfl,rfl,rfl,by simp_all,λk _ a=>Below.heap_setCell w (R b i) u k<|λe=>a<|by rw[e]⟩
def Ei(w:Z)(a:Option M):w.grownBy w a:=⟨rfl,rfl,rfl,ai _,λ_ _ _=>rfl⟩
theorem bV{b i:M}{c:Array ab}{t:TypeId}{d:M×M}(h:a.heap[b]?=H (ay c t d)):aS a (R b i)=c[i]?:=by simp[World.cell?,h]
def cellAt{c:Array ab}{t:TypeId}{e:M×M}(h:a.heap[b]?=H (.cells c t e))(i:M)(f:c.toList[i]?=H d):aS a (R b i)=H d:=by rw[bV h,<-f];simp
def cZ{c i:M}{b:Array ab}{t:TypeId}(h:a.heap[c]?=H (ay b t (0,0))):a.frozen? (R c i)=bj:=by simp[World.frozen?,h]
def fo{o:Obj}(h:b<z (G a)):aS (cG a o) (R b c)=aS a (R b c):=da (w:=a)<|Below.heap_alloc a o b h
def _root_.Go.RowKit.Below.of_heap{a w w':Z}(h:Below b a w)(e:(w'.os,w'.tape,w'.output,w'.heap)=(w.os,w.tape,w.output,w.heap)):Below b a w':=by
 simp only[iZ]at e;exact⟨e.1.trans h.os,e.2.1.trans h.tape,e.2.2.1.trans h.output,by rw[e.2.2.2];exact h.size,λk d=>by rw[e.2.2.2];exact h.block k d⟩
theorem ar{b:M}{o:Obj}(h:a.heap[b]?=H o):b<z (G a):=by
 by_cases c:b<z (G a);exact c;grind
