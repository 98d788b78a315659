import Derived.Lib.AppendStr
import Derived.Maps.AppendAt
import Derived.ProofKit
import Derived.WalkKit
namespace Go.Proofs.YtophdnlmpfmeiaaGreatDoor
open ChangeShapes WideShapes RowKit
set_option maxHeartbeats 16000000
set_option linter.all false
set_option maxRecDepth 100000
abbrev ct:=@Addr.add_lit
abbrev bj:=@And.intro
abbrev kj:=@Array.getElem?_append_left
abbrev pB:=@Array.getElem?_eq_getElem
abbrev dy:=@Array.getElem?_eq_none
abbrev ki:=@Array.getElem?_eq_some_iff
abbrev mO:=@Array.getElem?_modify
abbrev gS:=@Array.getElem?_setIfInBounds_ne
abbrev sg:=@Array.getElem?_toList
abbrev gM:=@Array.length_toList
abbrev jT:=@Array.mem_of_getElem?
abbrev fq:=@Array.replicate_succ
abbrev fp:=@Array.replicate_zero
abbrev pZ:=@Array.setIfInBounds_comm
abbrev kh:=@Array.size_replicate
abbrev pJ:=@Array.toList_push
abbrev mU:=@Bool.and_eq_true
abbrev pY:=@Bool.and_self
abbrev rW:=@Bool.eq_iff_iff
abbrev sI:=@Bool.false_and
abbrev ic:=@Bool.false_eq_true
abbrev qC:=@Bool.not_eq_true
abbrev me:=@Bool.not_false
abbrev aa:=ByteArray
abbrev iD:=@ByteArray.toList_eq
abbrev ue:=@Calls.mono
abbrev sH:=@DataW.trod_int
abbrev ma:=@DataW.trod_string
abbrev jX:=@Function.comp_def
abbrev nZ:=@Iff.rfl
abbrev qB:=@Int.eq_ofNat_of_zero_le
abbrev sG:=@Int.ofNat_tdiv
abbrev uE:=@Int.pow_succ
abbrev bu:=@IntKind.wrap_i64
abbrev eZ:=@IntKind.wrap_u64
abbrev pA:=@Lib.run_append_own_string
abbrev oK:=@List.Nodup.sublist
abbrev dK:=@List.Pairwise.nil
abbrev jS:=@List.Pairwise.sublist
abbrev mN:=@List.Perm.append_left
abbrev rl:=@List.Perm.append_right
abbrev sF:=@List.Perm.refl
abbrev lZ:=@List.Sublist.length_le
abbrev dJ:=@List.Sublist.refl
abbrev pX:=@List.all_cons
abbrev kE:=@List.all_eq_true
abbrev qA:=@List.any_eq_true
abbrev aV:=@List.append_assoc
abbrev oJ:=@List.append_cancel_left_eq
abbrev cN:=@List.append_nil
abbrev fI:=@List.append_toArray
abbrev tW:=@List.cons.inj
abbrev jh:=@List.cons.injEq
abbrev dI:=@List.cons_append
abbrev sf:=@List.cons_lt_cons_iff
abbrev nV:=@List.countP_eq_zero
abbrev bm:=@List.drop_eq_getElem_cons
abbrev jH:=@List.drop_eq_nil_of_le
abbrev kg:=@List.drop_left
abbrev eJ:=@List.drop_length
abbrev jk:=@List.drop_sublist
abbrev sE:=@List.drop_zero
abbrev aG:=@List.eq_nil_of_length_eq_zero
abbrev lY:=@List.exists_of_findSome?_eq_some
abbrev pI:=@List.ext_getElem?
abbrev iT:=@List.filter_append
abbrev cA:=@List.filter_cons_of_neg
abbrev dW:=@List.filter_cons_of_pos
abbrev gF:=@List.filter_eq_nil_iff
abbrev ff:=@List.filter_eq_self
abbrev eE:=@List.filter_sublist
abbrev rV:=@List.find?_some
abbrev se:=@List.findSome?_append
abbrev dZ:=@List.flatMap_append
abbrev cF:=@List.flatMap_cons
abbrev qz:=@List.flatMap_nil
abbrev dl:=@List.flatten_append
abbrev aT:=@List.flatten_cons
abbrev dH:=@List.flatten_nil
abbrev fR:=@List.foldl_append
abbrev eh:=@List.foldl_cons
abbrev oI:=@List.getD_eq_getElem?_getD
abbrev fH:=@List.getElem?_append_left
abbrev dD:=@List.getElem?_append_right
abbrev jG:=@List.getElem?_drop
abbrev aA:=@List.getElem?_eq_getElem
abbrev ci:=@List.getElem?_eq_none
abbrev gV:=@List.getElem?_eq_some_iff
abbrev cP:=@List.getElem?_map
abbrev dN:=@List.getElem?_set_ne
abbrev eI:=@List.getElem?_set_self'
abbrev jF:=@List.getElem?_take
abbrev kT:=@List.getElem?_take_of_lt
abbrev mM:=@List.getElem?_toArray
abbrev kS:=@List.getElem_append_left
abbrev kL:=@List.getElem_append_right
abbrev iJ:=@List.getElem_cons_drop
abbrev am:=@List.getElem_cons_succ
abbrev ap:=@List.getElem_cons_zero
abbrev pH:=@List.getElem_drop
abbrev gm:=@List.getElem_map
abbrev au:=@List.getElem_mem
abbrev dj:=@List.getElem_of_mem
abbrev iQ:=@List.getElem_set
abbrev mL:=@List.getElem_set_self
abbrev fi:=@List.getElem_take
abbrev av:=@List.getElem_toArray
abbrev mT:=@List.isEmpty_nil
abbrev ag:=@List.length_append
abbrev aE:=@List.length_cons
abbrev fE:=@List.length_drop
abbrev lA:=@List.length_eq_zero_iff
abbrev gY:=@List.length_filter_le
abbrev jw:=@List.length_flatten
abbrev bW:=@List.length_map
abbrev cH:=@List.length_nil
abbrev fB:=@List.length_set
abbrev cU:=@List.length_take
abbrev aN:=@List.map_append
abbrev aY:=@List.map_cons
abbrev iI:=@List.map_eq_append_iff
abbrev fY:=@List.map_map
abbrev df:=@List.map_nil
abbrev qy:=@List.map_reverse
abbrev uD:=@List.map_set
abbrev qx:=@List.map_toArray
abbrev aw:=@List.mem_append
abbrev cX:=@List.mem_append_left
abbrev dV:=@List.mem_append_right
abbrev aD:=@List.mem_cons
abbrev aJ:=@List.mem_cons_of_mem
abbrev cK:=@List.mem_cons_self
abbrev eH:=@List.mem_filter
abbrev iP:=@List.mem_flatMap
abbrev bH:=@List.mem_flatten
abbrev eO:=@List.mem_iff_getElem
abbrev aZ:=@List.mem_map
abbrev gL:=@List.mem_map_of_mem
abbrev je:=@List.mem_of_find?_eq_some
abbrev gl:=@List.mem_of_getElem?
abbrev cg:=@List.mem_of_mem_drop
abbrev dC:=@List.mem_of_mem_take
abbrev jz:=@List.mem_range
abbrev gh:=@List.mem_reverse
abbrev bE:=@List.mem_singleton
abbrev mJ:=@List.modify_succ_cons
abbrev sd:=@List.modify_zero_cons
abbrev cL:=@List.nil_append
abbrev gE:=@List.nodup_append
abbrev iA:=@List.nodup_cons
abbrev cS:=@List.not_mem_nil
abbrev bU:=@List.pairwise_append
abbrev bL:=@List.pairwise_cons
abbrev fU:=@List.pairwise_flatten
abbrev bG:=@List.pairwise_iff_getElem
abbrev jW:=@List.pairwise_map
abbrev sa:=@List.perm_append_comm
abbrev jy:=@List.perm_middle
abbrev qw:=@List.prefix_refl
abbrev gD:=@List.push_toArray
abbrev rU:=@List.range_succ
abbrev ab:=@List.setIfInBounds_toArray
abbrev eD:=@List.set_append_right
abbrev af:=@List.set_cons_succ
abbrev ae:=@List.set_cons_zero
abbrev gx:=@List.set_eq_take_append_cons_drop
abbrev iZ:=@List.singleton_append
abbrev rk:=@List.singleton_sublist
abbrev gC:=@List.size_toArray
abbrev eR:=@List.sublist_append_right
abbrev cu:=@List.sublist_flatten_of_mem
abbrev eG:=@List.sum_append
abbrev fA:=@List.sum_cons
abbrev bF:=@List.take_append_drop
abbrev fQ:=@List.take_append_of_le_length
abbrev lX:=@List.take_left
abbrev lh:=@List.take_left'
abbrev bD:=@List.take_length
abbrev bP:=@List.take_of_length_le
abbrev lW:=@List.take_sublist
abbrev nU:=@List.take_succ_cons
abbrev aq:=@List.take_succ_eq_append_getElem
abbrev oH:=@List.take_zero
abbrev ib:=@MapKept.heap_set
abbrev fo:=@MapKept.run_checkKey
abbrev fc:=@MapKept.run_findKey
abbrev lV:=@MapKept.run_getObj_map
abbrev pW:=@MapKept.run_keyThatStays
abbrev gB:=@MapKept.run_setObj_map
abbrev rj:=@MapKept.stamped_modify
abbrev aP:=@Nat.add_assoc
abbrev uC:=@Nat.add_comm
abbrev lz:=@Nat.add_sub_cancel_left
abbrev kD:=@Nat.add_zero
abbrev de:=@Nat.eq_zero_or_pos
abbrev ai:=@Nat.le_refl
abbrev aB:=@Nat.le_trans
abbrev iM:=@Nat.lt_irrefl
abbrev ah:=@Nat.lt_of_lt_of_le
abbrev lm:=@Nat.lt_or_eq_of_le
abbrev cJ:=@Nat.lt_or_ge
abbrev jj:=@Nat.lt_trichotomy
abbrev sD:=@Nat.min_def
abbrev rS:=@Nat.min_eq_left
abbrev ke:=@Nat.mul_le_mul_right
abbrev nw:=@Nat.mul_one
abbrev fy:=@Nat.not_lt_zero
abbrev uB:=@Nat.sub_self
abbrev cw:=@Nat.zero_add
abbrev aU:=@Nat.zero_le
abbrev qu:=@Option.bind_some
abbrev gg:=@Option.getD_some
abbrev lU:=@Option.map_eq_some_iff
abbrev ik:=@Option.none_or
abbrev sC:=@Option.or_none
abbrev dm:=@Option.some.inj
abbrev lT:=@Option.some.injEq
abbrev sB:=@Option.some_or
abbrev eY:=@Prod.mk.injEq
abbrev ir:=@Result.andThen_ok
abbrev iH:=@Sem.run_bind
abbrev lS:=@Sem.run_pure
abbrev M:=Value
abbrev J:=World
abbrev cI:=@World.block_lt_of_cell?
abbrev dB:=@World.cell?_alloc_lt
abbrev lR:=@World.cell?_alloc_past
abbrev aQ:=@World.cell?_drew
abbrev bI:=@World.cell?_of_block
abbrev jx:=@World.frozen?_alloc_old
abbrev cD:=@World.grownBy_alloc
abbrev aM:=@World.ownsRow.alloc
abbrev aK:=@World.ownsRow.lt
abbrev bC:=@World.ownsRow_nil
abbrev oG:=@and_true
abbrev iC:=@beq_eq_false_iff_ne
abbrev ri:=@beq_iff_eq
abbrev bO:=@bodyPost_ret
abbrev tV:=@callsIn_of_wp
abbrev dM:=@callsIn_wide
abbrev nY:=@cell_one_new
abbrev bB:=@congrArg
abbrev nL:=@decide_eq_false
abbrev oF:=@decide_eq_true
abbrev lQ:=@decide_eq_true_eq
abbrev sA:=@decide_true
abbrev pG:=@dif_pos
abbrev oE:=@grownCap_le_maxLen
abbrev sy:=@growslice_fits
abbrev ew:=@heap_alloc_new
abbrev ji:=@if_false
abbrev dd:=@if_neg
abbrev dr:=@if_pos
abbrev iY:=@if_true
abbrev bK:=@info_parts
abbrev ij:=@leaves_cons
abbrev tE:=@mem_ready
abbrev gX:=@or_false
abbrev oD:=@ready_mono
abbrev jE:=@results_none
abbrev iL:=@results_tmp
abbrev uA:=@results_tmp2
abbrev nX:=@results_tmp3
abbrev fP:=@rounds_succ
abbrev lP:=@run_append_own_at
abbrev di:=@run_callFunc_extern
abbrev rh:=@run_convert_bytes_back
abbrev jM:=@run_loadVar_row
abbrev sx:=@run_makeMap
abbrev er:=@run_underlying
abbrev sw:=@setRow_heap
abbrev nW:=@setRow_other
abbrev ou:=@wpIn_mono
abbrev vN:=@wpIn_wide
abbrev gO:=@wpList_make_own
abbrev iG:=@wpList_plain
abbrev qt:=@wpOp_mono
abbrev jZ:=@wp_loop_rounds
abbrev tU:=@wp_region_any
def Z{p:Prop}(h:p):Hid p:=h
def Y{p:Prop}(h:Hid p):p:=h
structure du(w w':J)(v v':M):Prop where
 grown:w.grownBy w' v.ownBlock
 sr:v'.ownBlock=v.ownBlock\/∃g,v'.ownBlock=some g/\w.heap.size<=g
def du.refl(w:J)(v:M):du w w v v:=⟨⟨rfl,rfl,rfl,ai _,λ_ _ _=>rfl⟩,.inl rfl⟩
def du.trans{a b c:J}{u v x:M}(h:du a b u v)(k:du b c v x):du a c u x:=by
 refine⟨⟨k.grown.os.trans h.grown.os,k.grown.tape.trans h.grown.tape,k.grown.output.trans h.grown.output,aB h.grown.size k.grown.size,λi g o=>?_⟩,?_⟩
 ·refine(k.grown.block i (ah g h.grown.size) ?_).trans (h.grown.block i g o);rcases h.sr with e|⟨r,e,d⟩
  ·rw[e];exact o
  ·rw[e];simp;omega
 ·rcases k.sr with e|⟨r,e,d⟩
  ·rw[e];exact h.sr
  ·exact .inr ⟨r,e,aB h.grown.size d⟩
def du.alloc{a b:J}{u v:M}(o:Obj)(h:du (a.alloc o) b u v):du a b u v:=by
 refine⟨(cD a o u.ownBlock).trans h.grown,?_⟩;rcases h.sr with e|⟨g,e,d⟩
 ·exact .inl e
 ·exact .inr ⟨g,e,by simp at d;omega⟩
def du.keeps{w c:J}{v f:M}(h:du w c v f){base g a:Nat}{u:M}{n:Nat}{d:List M}(e:w.ownsRow base g a u n d)(b:u.ownBlock=none\/u.ownBlock≠v.ownBlock):c.ownsRow base g a u n d:=e.kept h.grown b
def du.below{w a:J}{v e:M}(h:du w a v e){B:Nat}(b:B<=w.heap.size)(d:∀k,v.ownBlock=some k->B<=k):Below B w a:=(Below.refl B w).grown h.grown b d
def du.of{w b:J}{v a:M}(h:w.grownBy b v.ownBlock)(d:a.ownBlock=v.ownBlock\/a.ownBlock=some w.heap.size):du w b v a:=⟨h,d.imp id λe=>⟨_,e,ai _⟩⟩
def wB{P:Program}{w:J}{base:Nat}{B u l q:TypeId}{r:TypeInfo}(n:P.underlying B=some (.slice q))(o:P.underlying u=some .string)(m:P.info? q=some r)(y:r.zero=some (.int .u8 0))(a:r.size=1)(h:r.bytes=1){G:M}{A:Nat}{p:List M}(b:w.ownsRow base q 1 G A p){s:aa}(d:A+s.size<=140737488355328){z:M}{H:J}(e:(Builtin.append_ #[B,u] l #[G,.string s]).run P w=.ok z H):z.ownBlock=G.ownBlock\/z.ownBlock=some w.heap.size:=by
 rcases b.2 with⟨rfl,rfl⟩|⟨g,c,k,rfl,C,E,F,D,t,v⟩
 ·by_cases i:s.size=0
  ·obtain⟨x,K,f,_,_,j⟩:=pA (P:=P) w 0 B u l q r n o m y a h (.slice none 0 0) 0 [] (bC w 0 q 1) s (by unfold maxLen;omega) d (aU _);rw[f]at e;cases e;rw[j.2 ⟨rfl,i⟩];exact .inl rfl
  ·have f:=run_append_nil_string (P:=P) w B u l q r (.int .u8 0) n o m y s (by omega) (by omega) (by rw[h];omega);rw[f]at e;cases e;exact .inr rfl
 ·by_cases j:A+s.size<=c
  ·have i:k.size=c:=by simpa using t
   have f:=Lib.run_append_room_string (P:=P) w B u l q r n o m a g A c k E s j (by omega);rw[f]at e;cases e;exact .inl rfl
  ·have i:∀j u,p[j]?=some u->w.cell? ((⟨g,0,none⟩:Addr).add j)=some u:=b.cells (g:=g) rfl;have x:p.length=A:=by simpa using b.1
   have f:=Lib.run_append_grow_string (P:=P) w B u l q r (.int .u8 0) n o m y ⟨g,0,none⟩ A c p (by rw[a];simpa using x) i s (by omega) (by omega) (by rw[h];exact sy (by omega) (by omega));rw[f]at e;cases e;exact .inr rfl
def oM{P:Program}(w:J){g:Array Oper}{d:List Oper}{t:Oper}{x:Act}{Q:Exit->Act->J->Prop}(k:t.guard=none)(v K:Operand)(G H:TypeId)(D:t.op=.call {callee:=.builtin .append,args:=#[v,K],argTypes:=#[G,H]})(base:Nat)(m:TypeId)(s:TypeInfo)(p:P.underlying G=some (.slice m))(q:P.underlying H=some .string)(n:P.info? m=some s)(r:s.zero=some (.int .u8 0))(b:s.size=1)(f:s.bytes=1)(z:M)(y:Nat)(l:List M)(E:x.eval v=z)(c:w.ownsRow base m 1 z y l)(u:aa)(F:x.eval K=.string u)(a:y+u.size<=140737488355328)(e:base<=w.heap.size)(L:∀h i,i.ownsRow base m 1 h (y+u.size) (l++Lib.strCells u)->du w i z h->wpList P g Q d (x.put t.dst h) i):wpList P g Q (t::d) x w:=by
 refine iG k λN C=>?_;obtain⟨h,i,o,A,B,_⟩:=pA (P:=P) w base G H t.type m s p q n r b f z y l c u (by unfold maxLen;omega) a e;have j:=wB p q n r b f c a o;unfold Oper.wp execOp;simp only[D,resolve,invoke,builtin,iH,lS,ir,qx,aY,df,E,F,o];exact C _ _ (L h i A (du.of B j))
def aX{P:Program}(w:J){p:Array Oper}{g:List Oper}{E:Oper}{a:Act}{an:Exit->Act->J->Prop}(x:E.guard=none)(ac ad:Operand)(G:TypeId)(R:E.op=.call {callee:=.builtin .append,args:=#[ac,ad],argTypes:=#[G,G]})(base:Nat)(D:TypeId)(i:TypeInfo)(al:M)(b bytes:Nat)(V:P.underlying G=some (.slice D))(O:P.info? D=some i)(X:i.zero=some al)(m:i.size=b)(t:i.bytes=bytes)(z:al.cells.size=b)(y:0<b)(v:M)(n:Nat)(A:List M)(U:a.eval ac=v)(o:w.ownsRow base D b v n A)(s:Addr)(C c:Nat)(d:List M)(W:a.eval ad=.slice (some s) C c)(Q:d.length=C*b)(k:∀j u,d[j]?=some u->w.cell? (s.add j)=some u)(H:∀u∈d,u.oneCell'=true)(hn:n+C<=140737488355328)(e:(n+C)*bytes<=140737488355328)(h:base<=w.heap.size)(ao:∀q r,r.ownsRow base D b q (n+C) (A++d)->du w r v q->wpList P p an g (a.put E.dst q) r):wpList P p an (E::g) a w:=wpList_append_own_at w x ac ad G R base D i al b bytes V O X m t z y v n A U o s C c d W Q k H (by unfold maxLen;omega) e h λq r K L _ N=>ao q r K (du.of L N)
def xw{b c d:J}{a:Option Nat}(h:b.grownBy c a)(k:c.grownBy d a):b.grownBy d a:=h.trans k
def aL{w:J}{d i:Nat}{u:M}{b:Array M}{t:TypeId}{c:Nat×Nat}(h:w.heap[d]?=some (.cells b t c)):(w.setCell ⟨d,i,none⟩ u).heap[d]?=some (.cells (b.setIfInBounds i u) t c):=by
 simp only[World.setCell,mO,h];simp
def co(w:J)(b i:Nat)(u:M):w.grownBy (w.setCell ⟨b,i,none⟩ u) (some b):=⟨rfl,rfl,rfl,by simp[World.setCell],λk _ c=>Below.heap_setCell w ⟨b,i,none⟩ u k (λe=>c (by rw[e]))⟩
def pa(w:J)(a:Option Nat):w.grownBy w a:=⟨rfl,rfl,rfl,ai _,λ_ _ _=>rfl⟩
def aj{w:J}{g i:Nat}{b:Array M}{t:TypeId}{d:Nat×Nat}(h:w.heap[g]?=some (.cells b t d)):w.cell? ⟨g,i,none⟩=b[i]?:=by simp[World.cell?,h]
def cG{w:J}{d i:Nat}{b:Array M}{t:TypeId}(h:w.heap[d]?=some (.cells b t (0,0))):w.frozen? ⟨d,i,none⟩=false:=by simp[World.frozen?,h]
def dE{w:J}{o:Obj}{b i:Nat}(h:b<w.heap.size):(w.alloc o).cell? ⟨b,i,none⟩=w.cell? ⟨b,i,none⟩:=bI (w:=w) (Below.heap_alloc w o b h)
def _root_.Go.RowKit.Below.of_heap{B:Nat}{a w w':J}(h:Below B a w)(e:(w'.os,w'.tape,w'.output,w'.heap)=(w.os,w.tape,w.output,w.heap)):Below B a w':=by
 simp only[eY]at e;exact⟨e.1.trans h.os,e.2.1.trans h.tape,e.2.2.1.trans h.output,by rw[e.2.2.2];exact h.size,λk b=>by rw[e.2.2.2];exact h.block k b⟩
def ak{w:J}{b:Nat}{o:Obj}(h:w.heap[b]?=some o):b<w.heap.size:=by
 by_cases d:b<w.heap.size
 ·exact d
 ·rw[dy (by omega)]at h;cases h
end Go.Proofs.YtophdnlmpfmeiaaGreatDoor
