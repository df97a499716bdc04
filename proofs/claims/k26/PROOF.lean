import PyProof.Rows.All
import Wide.All
import OpenK.AllK
import Wide.FinOn
import Lean
import PyProof.EqAt
import PyProof.EqKinds
import PyProof.TupleCall
import PyProof.ExcBaseAll.ValueError
import PyProof.InstNe
import PyProof.ListMulRoad
import KE.KLam
import KE.KMinKey
import KE.KNestM
import PySem.Challenge.RW_rowtrim_k26_told_things_handed_on
set_option Elab.async false
set_option linter.all false
set_option compiler.extract_closed false
set_option maxRecDepth 100000
set_option maxHeartbeats 4000000
open PySem PySem.Spec PyProof.Rows
local macro_rules
  | `(tactic| omega) => `(tactic| first | with_reducible assumption | lia | omega (config := {}))
abbrev Φ:=W.Frag
abbrev Ψ:=@envOfC
theorem ω{p:Prop}(h:p:=by omega):p:=h
theorem δ{p:Prop}(h:p:=by decide):p:=h
theorem η{p:Prop}(h:p:=by decide+kernel):p:=h
theorem ς{p:Prop}(h:p:=by simp):p:=h
def aa:=@wpAny_bind
def af:=@Heap.get?_push_of_some
def ag:=@List.getElem?_eq_getElem
def ah:=@List.length_map
abbrev ai:=Value
def ao:=@Nat.le_refl
abbrev aq:=Addr
abbrev ar:=Shared
def au:=@wpAny_pure
def av:=@Heap.get?_push_size
def aw:=@List.getD_eq_getElem?_getD
def aA:=@List.length_append
def aB:=@Nat.le_trans
def aC:=@List.size_toArray
def aD:=@List.mem_append_right
def aE:=@List.length_singleton
def aF:=@List.getElem?_eq_some_iff
def aG:=@Heap.lt_size
def aI:=@if_neg
def aJ:=@if_pos
def aK:=@List.mem_singleton
def aN:=@wpAny_mono
abbrev aQ:=Program
def aR:=@List.getElem?_map
def aT:=@Nat.lt_of_lt_of_le
def aU:=@List.mem_cons
def aV:=@Heap.get?_update_other
def aW:=@Nat.ne_of_lt
def aX:=@List.mem_append
def aY:=@List.mem_of_getElem?
def aZ:=@decide_eq_true
def bf:=@Option.some.inj
abbrev bg:=World
def bh:=@List.mem_append_left
def br:=@List.mem_map
def bw:=@decide_eq_false
def bz:=@PassesOwn.never
def bA:=@Paired.mono
def bB:=@wpAny_truthy_bool
def bC:=@List.map_append
def bD:=@Bool.false_ne_true
def bE:=@List.length_cons
def bF:=@List.not_mem_nil
def bG:=@List.map_cons
def bH:=@Nat.zero_le
def bJ:=@List.mem_cons_of_mem
abbrev bL:=Around
def bM:=@List.take_add_one
def bO:=@boot_tuple
def bP:=@Heap.size_push
def bS:=@wpAny_newObj_type
def bT:=@List.mem_cons_self
def bU:=@Nat.lt_of_le_of_lt
def bX:=@List.take_length
def bY:=@boot_len
def b7:=@wpAny_seqItems
def b8:=@Nat.lt_succ_of_lt
def b9:=@wpAny_loadPart'
def b_:=@List.length_take
def cf:=@wpAny_holding
def cg:=@wpAny_tryCatch
def cq:=@Around.under_plainId
def cw:=@Option.map_eq_some_iff
def cA:=@Bool.and_eq_true
def cD:=@Nat.lt_irrefl
def cE:=@F.plain_min_loop
def cF:=@Heap.get?_update_self
def cH:=@Nat.pow_le_pow_right
def cI:=@F.slot_list_append
def cJ:=@F.type_list_append
def cK:=@List.length_drop
def cN:=@Nat.le_of_lt_succ
def cP:=@plainId_quiet
def cQ:=@Bool.false_eq_true
def cV:=@codeAny_builtin
def c_:=@Nat.lt_succ_self
def dg:=@Nat.le_succ
def di:=@List.mem_filterMap
def dj:=@Nat.lt_of_le_of_ne
def dr:=@List.mem_map_of_mem
def dA:=@congrArg
def dB:=@List.getElem?_append_right
def dD:=@List.getElem_mem
def dP:=@wpAny_standAt
def dQ:=@wpAny_pyIter_list
def dU:=@List.append_nil
def dW:=@wpAny_field
def dX:=@wpAny_letGo
def dY:=@boot_isinstance
def d7:=@Nat.le_of_lt
def d9:=@Paired.length
def eh:=@slot_tuple_getitem
def el:=@Nat.le_of_eq
def eA:=@boot_list
def eE:=@or_false
def eF:=@wpAny_updateSeq
def eG:=@Array.length_toList
def eI:=@PySem.mem_of_lookup
def eJ:=@Ne.symm
def eQ:=@W.kia_one
def eX:=@wpAny_Call_Name_kw
def fc:=@Nat.ne_of_gt
def fe:=@of_decide_eq_true
def fg:=@List.nodup_append
def fq:=@List.getElem?_append_left
def fu:=@List.drop_eq_getElem_cons
def fw:=@List.take_append_drop
def fH:=@List.length_eq_zero_iff
def fJ:=@AutoSeq1.wpAny_loadPart'
def fN:=@beq_eq_false_iff_ne
def fP:=@PyProof.Rows.callWith_type1
def fQ:=@List.take_of_length_le
def fT:=@F.plain_min_loop
def fU:=@wpAny_callSpecial?_slot
def fX:=@wpAny_passesOwn
def fY:=@List.lookup_cons
def fZ:=@Nat.le_add_right
def gi:=@Bool.false_and
def gA:=@List.mem_filter
def gD:=@List.find?_cons
def gE:=@Nat.le_add_left
def gG:=@wpAny_pyIter_tuple
def gH:=@List.mem_of_mem_take
def gL:=@List.length_filterMap_le
def gS:=@wpAny_newFunctionEnv
def g9:=@wpAny_comprehension_free
def hJ:=@List.nodup_cons
def hV:=@if_false
def hX:=@wpAny_call_entry
def hZ:=@F.plain_max_loop
def iu:=@List.any_cons
def iB:=@List.getElem?_eq_none
def iC:=@List.filterMap_append
def iD:=@List.length_filter_le
def iF:=@List.eq_nil_or_concat
def iG:=@List.concat_eq_append
def iI:=@Paired.snoc
def iJ:=@Array.getD_eq_getD_getElem?
def iK:=@Nat.le_of_succ_le
def iM:=@codeAny_mono
def iN:=@wpAny_setField_rec
def i9:=@List.getElem?_of_mem
def i_:=@Array.getElem?_eq_some_iff
def jb:=@Nat.le_sub_one_of_lt
def jg:=@if_true
def jh:=@List.map_map
def ji:=@Int.le_trans
def jj:=@List.mem_flatMap
def jz:=@Nat.add_sub_cancel'
def jA:=@List.length_pos_iff
def jG:=@Walks.list
def jH:=@F.slot_tuple_iterator_next
def jI:=@Bool.true_and
def jJ:=@List.sum_cons
def jP:=@F.entry_min_loop
def jQ:=@Nat.not_lt
def jR:=@List.zip_cons_cons
def jS:=@Int.emod_lt_of_pos
def ky:=@Int.le_of_lt
def kC:=@List.reverse_cons
def kD:=@List.length_pos_of_mem
def kO:=@SeqAt.EqAt.int_int
def kP:=@tupleKind_room_in1
def kW:=@sizeLine_eq
def kX:=@F.slot_list_pop
def kY:=@F.type_list_pop
def kZ:=@boot_sum
def k_:=@beq_iff_eq
def lV:=@Calls.callWith_builtin
def lW:=@Int.mul_pos
def lX:=@List.getLast?_concat
def mB:=@vals1
def mK:=@Nat.min_le_left
def mL:=@Option.map_some
def mM:=@Int.emod_nonneg
def mT:=@List.filterMap_cons
def mU:=@Obj.isFreed_of_fields
def mV:=@List.getElem_of_mem
def mW:=@List.getElem?_range
def m5:=@wpAny_rule
def m7:=@wpAny_call
def m8:=@Nat.lt_trans
def ou:=@List.mem_range
def ow:=@Int.fdiv_eq_ediv_of_nonneg
def oz:=@W.callWith_K
def oC:=@of_decide_eq_false
def pF:=@wpAny_execs_nil
def pG:=@Int.natAbs_ediv_le_natAbs
def p_:=@List.length_range
def qa:=@List.append_assoc
def qe:=@F.args_tuple_add_2
def qf:=@W.KasT.kasWp_bind
def qg:=@List.map_take
def qi:=@Int.mul_ediv_cancel_left
def qj:=@List.Perm.eq_of_pairwise
def qm:=@F.slot_list_insert
def qo:=@F.type_list_insert
def rh:=@F.entry_tuple_add
def rj:=@Nat.min_le_right
def rm:=@SeqAt.EqAt.str_str
def rn:=@List.eraseIdx_cons_succ
def rp:=@Nat.succ_le_succ
def rq:=@wpAny_setField
def rA:=@Obj.data_mapFields
def rB:=@Nat.succ_ne_self
def rC:=@decide_eq_decide
def rD:=@List.getElem?_cons_succ
def sW:=@W.cellsFrom_some
def sX:=@F.slot_tuple_add
def sY:=@List.map_nil
def sZ:=@F.entry_min_loop
def tQ:=@wpAny_assign_Name
def tR:=@Bool.eq_iff_iff
def tS:=@List.of_mem_zip
def tT:=@List.forIn_cons
def tU:=@wpAny_of_eq
def tV:=@wpAny_pyIter_enum
def tW:=@Nat.le_antisymm
def tX:=@Nat.not_lt_zero
def uo:=@F.slot_dict_get
def uq:=@boot_all
def ur:=@boot_min
def vG:=@Sum.inr.inj
def vH:=@Prod.ext
def vI:=@List.mem_of_mem_drop
def vJ:=@Int.natAbs_mul
def vK:=@List.dropLast_concat
def vL:=@Nat.mul_le_mul_right
def vM:=@Nat.mul_le_mul
def vN:=@Int.mul_nonneg
def xx:=@W.plainGet_of
def xy:=@Nat.add_le_add_left
def xA:=@codeAny_compStart_list
def xB:=@List.length_reverse
def xC:=@Nat.sub_le_sub_left
def yU:=@F.slot_zip_next
def yZ:=@wpAny_isTrue_Compare1
def y0:=@exec_Assign_Name_used
def y3:=@Nat.sub_lt
def y4:=@List.getElem?_drop
def y6:=@Nat.lt_or_eq_of_le
def A5:=@List.take_sublist
def A6:=@Int.toNat_natCast
def A7:=@Int.ofNat_le
def A8:=@wpAny_updateSeq_pair
def A9:=@List.any_map
def A_:=@Option.isSome_map
def Ba:=@Calls.evalArgs_plain
def Bb:=@List.zip_nil_left
def Bc:=@Nat.succ_add
def Be:=@Int.mul_comm
def Bf:=@List.pairwise_map
def Bg:=@Nat.pow_succ
def CK:=@List.eraseIdxIfInBounds_toArray
def Er:=@Nat.le_of_not_lt
def Es:=@List.ext_getElem
def Et:=@List.getElem_map
def Eu:=@List.all_eq_true
def Ew:=@List.Perm.eq_nil
def F9:=@wpAny_onRaise
def F_:=@Int.le_refl
def Ga:=@Int.neg_mul
def Gq:=@Calls.spliced_cons
def Gr:=@wpAny_evalAll_cons
def Gs:=@call_meets
def Gu:=@List.length_nil
def Gv:=@call_function_tree
def Kx:=@concat_meets
def Ky:=@Nat.sub_le
def Kz:=@wpAny_typeOf
def KA:=@Bool.and_false
def KC:=@codeAny_loop
def KD:=@Heap.SameBut.refl
def KE:=@List.forIn_nil
def KG:=@F.excBase_ValueError
def KH:=@Array.perm_iff_toList_perm
def KI:=@List.Perm.refl
def KJ:=@Int.mul_le_mul
def Og:=@List.pairwise_iff_getElem
def Oh:=@floordiv_int
def Oi:=@Classical.byContradiction
def Oj:=@List.mem_of_find?_eq_some
def PJ:=@Option.isSome_iff_exists
def PL:=@noFill_tuple_add
def PM:=@SeqAt.eqAt_reads
def PN:=@wpAny_askSetting
def PQ:=@F.slot_dict_values
def PR:=@F.entry_max_loop
def PU:=@wpAny_typeOf_ref
def PV:=@PyProof.noPylong_of_log2
def PX:=@List.map_drop
def PY:=@List.length_erase_of_mem
def PZ:=@List.filterMap_cons_none
def P0:=@List.filterMap_cons_some
def P_:=@boot_sorted
def Uk:=@Int.eq_ofNat_of_zero_le
def Ul:=@wpAny_noted
def Um:=@F.args_dict_get_3
def Uo:=@F.plainAttrs_dict
def Uq:=@F.plain_min
def Ur:=@F.entry_min
def Us:=@Int.mul_ediv_mul_of_pos
def Ut:=@List.getElem?_cons_zero
def Uu:=@F.plainAttrs_list
def U9:=@List.getElem?_set_self
def U_:=@Int.toNat_le
def Va:=@Heap.Ns.sameBut
def Vb:=@F.args_tuple_iterator_next_1
def Vc:=@Nat.lt_or_ge
def Vd:=@listUpdate_at
def Ve:=@F.entry_dict_get
def Vf:=@Nat.gcd_comm
def Vg:=@List.filterMap_eq_map'
def Vh:=@List.getElem_cons_drop
def Vi:=@Classical.epsilon_spec
def Bh {n:Nat}(h:Nat.ble n 99=true:=by exact rfl):n<=PySem.sizeLine:=aB (Nat.le_of_ble_eq_true h) δ
local macro_rules
 | `(tactic| exists $c) => do
  let i (x : Lean.Name) := Lean.mkIdent x
  `(tactic| refine $(i `F.ok) $c (by intro _ _ _ _ h; cases h; rfl) (fun $(i `eU) $(i `A) $(i `outer) $(i `s) $(i `H) $(i `vs) $(i `Q) $(i `E) $(i `hr) $(i `h) => ?_))
namespace L2
abbrev Aaf:=ai->ar->Prop
abbrev Aae:=Str->Option ai
abbrev Aad:=List ai
abbrev Aab:=List Str
abbrev Aaa:=List (aq×Obj)
abbrev Key:=Sum Bool Str
def isBoolOf (b:Bool):ai->Bool
 | .bool c=>b==c
 |_=>false
def uv (h:isBoolOf b v=true):v=.bool b:=by cases v<;>simp[isBoolOf] at h;rw[h]
def Gw (b:Bool):Int:=if b then 1 else 0
def qp (h:Q (Gw b) {s with toks:=s.toks+1}):
  wpAny (model prog w) A (pyHash (.bool b)) Q E s:=by
 refine PySem.W.pyHash_slot (T:="bool") rfl F.slot_bool_hash entry_int_hash (args_int_hash _) (beq_builtin_none _) (.inl rfl) ?_;have go:∀i:Int,reduceHash i=Gw b->wpAny (model prog w) A.in1 (do ret (<-mkInt i)) (λfin s'=>∃n t,fin=.done (.ret (.int n t))/\Q (reduceHash n) s') E s:=λi e=>aa (wpAny_mkInt (au ⟨_,_,rfl,by rw[e];exact h⟩));cases b
 .exact go 0 rfl
 .exact go 1 rfl
def wo:Key->ai->Bool
 | .inl k,v=>isBoolOf k v
 | .inr x,v=>Value.isStrOf x v
def aaa (w:bg):Key->Int
 | .inl k=>Gw k
 | .inr x=>hashStr w x
def fB:∀{k:Key}{v:ai},wo k v=true->(∃b,k=Sum.inl b/\v=Value.bool b)\/(∃x t,k=Sum.inr x/\v=Value.str x t)
 | .inl i,v,h=>.inl ⟨i,rfl,uv h⟩
 | .inr x,v,h=>by obtain⟨t,e⟩:=Value.isStrOf_shape (x:=x) (v:=v) h;exact .inr ⟨x,t,rfl,e⟩
def Bi (b:Bool):wo (.inl b) (.bool b)=true:=by simp[wo,isBoolOf]
def Ex (x:Str) (t:Tok):wo (.inr x) (.str x t)=true:=by simp[wo,Value.isStrOf]
def Qa (a b:Bool):decide ((Sum.inl a:Key)=Sum.inl b)=(a==b):=by cases a<;>cases b<;>decide
def Qb (a b:Str):decide ((Sum.inr a:Key)=Sum.inr b)=decide (a=b):=by
 by_cases e:a=b
 .subst e;simp
 .have h:¬(Sum.inr a:Key)=Sum.inr b:=λq=>e (vG q);rw[bw h,bw e]
def Qc (a:Bool) (b:Str):decide ((Sum.inl a:Key)=Sum.inr b)=false:=bw (λq=>nomatch q)
def Qd (a:Str) (b:Bool):decide ((Sum.inr a:Key)=Sum.inl b)=false:=bw (λq=>nomatch q)
def fi (prog:aQ) (w:bg):PySem.KeyKind prog w Key where
 is:=wo
 hash:=aaa w
 inj:=λv a b ha hb=>by
  rcases fB ha with⟨i,rfl,rfl⟩|⟨x,t,rfl,rfl⟩
  .rcases fB hb with⟨j,rfl,e⟩|⟨y,u,rfl,e⟩
   .injection e with e1;rw[e1]
   .exact nomatch e
  .rcases fB hb with⟨j,rfl,e⟩|⟨y,u,rfl,e⟩
   .exact nomatch e
   .injection e with e1 _;rw[e1]
 byValue:=λk v h=>by rcases fB h with⟨i,rfl,rfl⟩|⟨x,t,rfl,rfl⟩<;>rfl
 pyHash:=λhv h=>by
  rcases fB hv with⟨i,rfl,rfl⟩|⟨x,t,rfl,rfl⟩
  .exact qp h
  .exact wpAny_pyHash_str h
 eqBool:=λhu hv h=>by
  rcases fB hu with⟨i,rfl,rfl⟩|⟨x,t,rfl,rfl⟩
  .rcases fB hv with⟨j,rfl,rfl⟩|⟨y,u,rfl,rfl⟩
   .rw[Qa] at h;exact SeqAt.EqAt.bool_bool i j _ _ _ _ h
   .rw[Qc] at h;exact SeqAt.EqAt.bool_str i y u _ _ _ _ h
  .rcases fB hv with⟨j,rfl,rfl⟩|⟨y,u,rfl,rfl⟩
   .rw[Qd] at h;exact SeqAt.EqAt.str_bool x t j _ _ _ _ h
   .rw[Qb] at h;exact wpAny_eqBool_str h
 «strs»:=λk x t v h=>by
  rcases fB h with⟨i,rfl,e⟩|⟨y,u,rfl,e⟩
  .exact nomatch e
  .injection e with e1 _;subst e1;cases v<;>rfl
def xD (prog:aQ) (w:bg) (b:Bool):(fi prog w).is (.inl b) (.bool b)=true:=Bi b
def y8 (prog:aQ) (w:bg) (x:Str) (t:Tok):(fi prog w).is (.inr x) (.str x t)=true:=Ex x t
inductive V where
 |e_|bl (b:Bool)|int (i:Int)|str (x:Str)|CL (b:Array UInt8)|si (b:UInt64)|ref (a:aq)|ty (n:String)
 deriving DecidableEq
abbrev Aac:=List V
def RelV:V->ai->Prop
 | .e_,u=>u=Value.none
 | .bl b,u=>u=Value.bool b
 | .int i,u=>∃t,u=Value.int i t
 | .str x,u=>∃t,u=Value.str x t
 | .CL b,u=>∃t,u=Value.bytes b t
 | .si b,u=>∃t,u=Value.float b t
 | .ref a,u=>u=Value.ref a
 | .ty n,u=>u=Value.type n
abbrev cx:Aac->Aad->Prop:=Paired RelV
def cx.length (r:cx xs us):xs.length=us.length:=d9 r
def cx.get:∀{xs:Aac}{us:Aad}{i:Nat}{x:V},cx xs us->xs[i]?=some x->∃u,us[i]?=some u/\RelV x u
 |_,_,_,_,.nil,e=>by simp at e
 |_,_,0,_,.cons r _,e=>by simp at e;subst e;exact⟨_,rfl,r⟩
 |_,_,i+1,x,.cons _ t,e=>by obtain⟨u,h1,h2⟩:=cx.get (i:=i) (x:=x) t (by simpa using e);exact⟨u,by simpa using h1,h2⟩
def cx.set (r:RelV x u):∀{xs:Aac}{us:Aad}(i:Nat),cx xs us->cx (xs.set i x) (us.set i u)
 |_,_,_,.nil=>.nil
 |_,_,0,.cons _ t=>.cons r t
 |_,_,i+1,.cons q t=>.cons q (cx.set r i t)
def cx.append:∀{xs ys:Aac}{us ws:Aad},cx xs us->cx ys ws->cx (xs++ys) (us++ws)
 |_,_,_,_,.nil,s=>s
 |_,_,_,_,.cons r t,s=>.cons r (cx.append t s)
def cx.take:∀{xs:Aac}{us:Aad}(n:Nat),cx xs us->cx (xs.take n) (us.take n)
 |_,_,0,_=>.nil
 |_,_,_+1,.nil=>.nil
 |_,_,n+1,.cons r t=>.cons r (cx.take n t)
def cx.drop:∀{xs:Aac}{us:Aad}(n:Nat),cx xs us->cx (xs.drop n) (us.drop n)
 |_,_,0,r=>r
 |_,_,_+1,.nil=>.nil
 |_,_,n+1,.cons _ t=>cx.drop n t
def mO:Option V->Option ai->Prop
 |some v,some u=>RelV v u
 |none,none=>True
 |_,_=>False
def KV {κ:Type}:List (κ×V)->List (κ×ai)->Prop:=Paired λ(p:κ×V) (q:κ×ai)=>p.1=q.1/\RelV p.2 q.2
def kV:Key->V
 | .inl b=>.bl b
 | .inr x=>.str x
inductive HO where
 |lst (xs:Aac)
 |tup (xs:Aac)
 |dK (kvs:List (Key×V))|dT (kvs:List (List Key×V))
 |set (S:Int->Bool) (n:Nat)
 |ins (C dx:aq) (fs:List (Str×V))
 |own (x:aq)
 |xd (fs:List (Str×V))
 |met (f x:aq)
 |ZF (lo hi:Int)
 |Bj (o:Obj) (u:HO)
 |jT (ps:Array ai)
 |ext (φ:Heap->Prop)
abbrev Hp:=aq->Option HO
def upd (H:Hp) (a:aq) (o:HO):Hp:=λb=>if b=a then some o else H b
def ba:upd H a o a=some o:=by unfold upd;rw[aJ rfl]
def bN (h:b≠a):upd H a o b=H b:=by unfold upd;rw[aI h]
def KL:upd (upd H a o) a u=upd H a u:=by funext b;unfold upd;split<;>rfl
def vO (h:Heap) (a:aq) (items:Array ai):Prop:=∃o,h.get? a=some o/\o.cls=.type "tuple"/\o.dict=none/\∃n,o.data=.seq items n
def vO.isTup (x:vO h a items):IsTup h a items:=let⟨o,e,c,_,n,d⟩:=x;⟨o,e,c,n,d⟩
def vO.lt (x:vO h a items):a<h.objs.size:=let⟨o,e,_⟩:=x;aG e
def vO.new (h:Heap) (items:Array ai):vO (h.push {cls:=.type "tuple",data:=.seq items}) h.objs.size items:=⟨_,av _ rfl,rfl,rfl,_,rfl⟩
def Ol {H:Hp}{a b:aq}{o u:HO}(h:H a=some o) (h':H b=some u) (d:o≠u):a≠b:=by intro e;subst e;rw[h] at h';exact d (bf h')
def h_ {H:Hp} (h:H a=some o) (h':H b=none):a≠b:=by intro e;subst e;rw[h] at h';cases h'
section
variable (P:aQ)(w:bg)
def fD (H:Hp) (h:Heap) (a:aq):HO->Prop
 | .lst xs=>xs.length<=sizeLine/\∃(bV:Aad) (n:Nat),cx xs bV/\h.get? a=some {cls:=.type "list",data:=.seq bV.toArray n}
 | .tup xs=>xs.length<=sizeLine/\∃bV:Aad,cx xs bV/\vO h a bV.toArray
 | .dK kvs=>kvs.length<=sizeLine/\(a==sysModules)=false/\∃vs,KV kvs vs/\h.DictOf (fi P w) a vs
 | .dT kvs=>kvs.length<=sizeLine/\(a==sysModules)=false/\∃xs:List (List Key×aq×ai),Paired (λ(p:List Key×V) (q:List Key×aq×ai)=>p.1=q.1/\H q.2.1=some (.tup (p.1.map kV))/\RelV p.2 q.2.2) kvs xs/\ ∃o es ep,h.get? a=some o/\o.ExactDict/\o.data=.dict es ep/\es.toList=xs.map (entryOfKey (tupleKind (fi P w)))/\(xs.map (·.1)).Nodup
 | .set S n=>h.SetOf (intKind P w) a S n
 | .ins C dx fs=>H dx=some (.own a)/\fs.length<=1000/\dx≠a/\h.get? a=some (PySem.W.instObj C dx)/\ ∃mA,h.Ns1 dx mA/\(∀f,mO (fs.lookup f) (mA f))/\PySem.Within mA (fs.map (·.1))
 | .own _=>∃o,h.get? a=some o
 | .xd fs=>∃mA,h.Ns1 a mA/\∀f,mO (fs.lookup f) (mA f)
 | .ZF lo hi=>∃t u v,h.get? a=some {cls:=.type "range",data:=.fields #[.int lo t,.int hi u,.int 1 v]}
 | .Bj o u=>h.get? a=some o/\fD H h a u
 | .jT ps=>h.get? a=some {cls:=.none,data:=.fields ps}
 | .met f x=>h.get? a=some (PySem.W.methodObj (.ref f) (.ref x))
 | .ext φ=>φ h/\(∃o,h.get? a=some o)/\∀h1 h2:Heap,φ h1->(∀o,h1.get? a=some o->h2.get? a=some o)->φ h2
def nU (H:Hp) (h:Heap):Prop:=∀a o,H a=some o->fD P w H h a o
end
variable {P:aQ}{w:bg}
section
variable {H H':Hp}{h h':Heap}{a:aq}{o:HO}
def fD.lt (x:fD P w H h a o):a<h.objs.size:=by
 cases o with
 |lst xs=>obtain⟨_,_,_,_,e⟩:=x;exact aG e
 |tup xs=>obtain⟨_,_,_,p⟩:=x;exact p.lt
 |dK kvs=>obtain⟨_,_,_,_,o,_,_,e,_⟩:=x;exact aG e
 |dT kvs=>obtain⟨_,_,_,_,o,_,_,e,_⟩:=x;exact aG e
 |set S n=>obtain⟨o,_,_,_,e,_⟩:=x;exact aG e
 |ins C dx fs=>obtain⟨_,_,_,e,_⟩:=x;exact aG e
 |own y=>obtain⟨_,e⟩:=x;exact aG e
 |xd fs=>obtain⟨_,⟨_,_,_,e,_⟩,_⟩:=x;exact aG e
 |ZF lo hi=>obtain⟨_,_,_,e⟩:=x;exact aG e
 |Bj ob u=>obtain⟨e,_⟩:=x;exact aG e
 |jT ps=>exact aG (show h.get? a=some _ from x)
 |met f y=>exact aG (show h.get? a=some _ from x)
 |ext φ=>obtain⟨_,⟨_,e⟩,_⟩:=x;exact aG e
def Paired.y9 {α β:Type}{F G:α->β->Prop}:∀{l₁:List α}{l₂:List β},Paired F l₁ l₂->(∀a b,F a b->G a b)->Paired G l₁ l₂
 |_,_,.nil,_=>.nil
 |_,_,.cons r t,f=>.cons (f _ _ r) (Paired.y9 t f)
def fD.vP (x:fD P w H h a o) (k:∀b u,(b=a\/H b=some (.own a))->h.get? b=some u->h'.get? b=some u) (ho:∀b,H b=some (.own a)->H' b=some (.own a)) (ht:∀b xs,H b=some (.tup xs)->H' b=some (.tup xs)):fD P w H' h' a o:=by
 induction o with
 |lst xs=>obtain⟨z,bV,n,r,e⟩:=x;exact⟨z,bV,n,r,k _ _ (.inl rfl) e⟩
 |tup xs=>obtain⟨z,bV,r,ob,e,c⟩:=x;exact⟨z,bV,r,ob,k _ _ (.inl rfl) e,c⟩
 |dK kvs=>obtain⟨z,y,vs,r,ob,es,ep,e,c⟩:=x;exact⟨z,y,vs,r,ob,es,ep,k _ _ (.inl rfl) e,c⟩
 |dT kvs=>obtain⟨z,y,xs,r,ob,es,ep,e,c⟩:=x;exact⟨z,y,xs,Paired.y9 r λp q z=>⟨z.1,ht _ _ z.2.1,z.2.2⟩,ob,es,ep,k _ _ (.inl rfl) e,c⟩
 |set S n=>obtain⟨ob,es,ep,t,e,c⟩:=x;exact⟨ob,es,ep,t,k _ _ (.inl rfl) e,c⟩
 |ins C dx fs=>obtain⟨d,z,ne,e,mA,⟨od,es,ep,e2,c⟩,r⟩:=x;exact⟨ho _ d,z,ne,k _ _ (.inl rfl) e,mA,⟨od,es,ep,k _ _ (.inr d) e2,c⟩,r⟩
 |own y=>obtain⟨ob,e⟩:=x;exact⟨ob,k _ _ (.inl rfl) e⟩
 |xd fs=>obtain⟨mA,⟨od,es,ep,e,c⟩,r⟩:=x;exact⟨mA,⟨od,es,ep,k _ _ (.inl rfl) e,c⟩,r⟩
 |ZF lo hi=>obtain⟨t,u,v,e⟩:=x;exact⟨t,u,v,k _ _ (.inl rfl) e⟩
 |Bj ob u ih=>obtain⟨e,q⟩:=x;exact⟨k _ _ (.inl rfl) e,ih q⟩
 |jT ps=>have e:h.get? a=some {cls:=.none,data:=.fields ps}:=x;show h'.get? a=some {cls:=.none,data:=.fields ps};exact k a _ (.inl rfl) e
 |met f y=>have e:h.get? a=some (PySem.W.methodObj (.ref f) (.ref y)):=x;show h'.get? a=some (PySem.W.methodObj (.ref f) (.ref y));exact k a _ (.inl rfl) e
 |ext φ=>obtain⟨p,⟨o,e⟩,st⟩:=x;exact⟨st _ _ p λo q=>k _ _ (.inl rfl) q,⟨o,k _ _ (.inl rfl) e⟩,st⟩
def nU.lt (x:nU P w H h) (e:H a=some o):a<h.objs.size:=(x a o e).lt
def nU.fresh (x:nU P w H h) (e:h.objs.size<=a):H a=none:=by
 cases q:H a with
 |none=>rfl
 |some u=>exact absurd (aT (x.lt q) e) (cD _)
def nU.kept (x:nU P w H h) (k:∀b u,h.get? b=some u->h'.get? b=some u):nU P w H h':=λa o e=>
 (x a o e).vP (λb u _ q=>k b u q) (λ_ q=>q) λ_ _ q=>q
def nU.laid (x:nU P w H h) (k:∀b u,h.get? b=some u->h'.get? b=some u) (hp:h.objs.size<=a) (new:fD P w (upd H a o) h' a o):nU P w (upd H a o) h':=λb u e=>by
 have hn:=x.fresh hp;by_cases hb:b=a
 .subst hb;rw[ba] at e;cases e;exact new
 .rw[bN hb] at e;exact(x b u e).vP (λc v _ q=>k c v q) (λc q=>by rw[bN (h_ q hn)];exact q) λc xs q=>by rw[bN (h_ q hn)];exact q
end
def Rd (H:Hp) (a:aq) (u:HO):Prop:=H a=some u\/∃o,H a=some (.Bj o u)
def Rd.ok {P}(r:Rd H a u) (x:nU P w H h):fD P w H h a u:=by
 rcases r with r|⟨o,r⟩
 .exact x a u r
 .obtain⟨_,q⟩:=x a _ r;exact q
def Vj:Option HO->Prop
 |some (.lst _)=>True
 |some (.dK _)=>True
 |some (.dT _)=>True
 |some (.set _ _)=>True
 |some (.ins _ _ _)=>True
 |some (.ext _)=>True
 |_=>False
variable {H:Hp}
section
variable {h h':Heap}{x e:aq}{o':HO}
def nU.write (ok:nU P w H h) (mu:Vj (H x)) (he:e=x\/H e=some (.own x)) (k:∀b u,b≠e->h.get? b=some u->h'.get? b=some u) (Uv:∃u,h'.get? e=some u) (new:fD P w (upd H x o') h' x o'):nU P w (upd H x o') h':=λb u q=>by
 have Vk:∀c y,H c=some (.own y)->c≠x:=λc y r z=>by subst z;rw[r] at mu;exact mu
 have aab:∀c xs,H c=some (.tup xs)->c≠x:=λc xs r z=>by subst z;rw[r] at mu;exact mu
 by_cases hb:b=x
 .subst hb;rw[ba] at q;cases q;exact new
 .rw[bN hb] at q;by_cases Qe:b=e
  .have q':H b=some (.own x):=by
    rcases he with z|z
    .exact absurd (Qe.trans z) hb
    .rw[Qe];exact z
   rw[q] at q';cases q';obtain⟨v,hv⟩:=Uv;exact⟨v,by rw[Qe];exact hv⟩
  .refine(ok b u q).vP (λc v hc r=>k c v ?_ r) (λc r=>by rw[bN (Vk c b r)];exact r) λc xs r=>by rw[bN (aab c xs r)];exact r
   rcases hc with rfl|hc
   .exact Qe
   .rintro rfl;rcases he with z|z
    .exact Vk c b hc z
    .rw[hc] at z;cases z;exact hb rfl
end
structure Un (fs ex:List aq) (H H':Hp) (h h':Heap):Prop where
 keep:∀b o,h.get? b=some o->H b=none->b∉fs->b∉ex->h'.get? b=some o
 slot:∀b o,h.get? b=some o->H b=none->b∈fs->b∉ex->∃sl,h'.get? b=some {o with slots:=sl}
 free:∀b o,h.get? b=some o->H b=none->b∉ex->H' b=none
 there:∀b o,h.get? b=some o->b∉ex->∃o',h'.get? b=some o'
 rE:∀b xs,H b=some (.tup xs)->H' b=some (.tup xs)
 qr:∀b o u,H b=some (.Bj o u)->H' b=some (.Bj o u)
 pH:∀b ps,H b=some (.jT ps)->∃more,H' b=some (.jT (ps++more))
section
variable {fs Vl ex ex':List aq}{H H1 H2:Hp}{h h1 h2 h':Heap}{a x e:aq}{o:HO}
def Un.any (u:Un fs ex H H1 h h1) (q:h.get? b=some ob) (n:H b=none) (hx:b∉ex):∃sl,h1.get? b=some {ob with slots:=sl}:=by
 by_cases hb:b∈fs
 .exact u.slot b ob q n hb hx
 .exact⟨ob.slots,u.keep b ob q n hb hx⟩
def Un.trans (a:Un fs ex H H1 h h1) (b:Un fs ex H1 H2 h1 h2):Un fs ex H H2 h h2 where
 keep:=λc ob q n hc hx=>b.keep c ob (a.keep c ob q n hc hx) (a.free c ob q n hx) hc hx
 slot:=λc ob q n hc hx=>by obtain⟨sl,e1⟩:=a.slot c ob q n hc hx;obtain⟨Vm,e2⟩:=b.slot c _ e1 (a.free c ob q n hx) hc hx;exact⟨Vm,e2⟩
 free:=λc ob q n hx=>by obtain⟨o',e1⟩:=a.there c ob q hx;exact b.free c o' e1 (a.free c ob q n hx) hx
 there:=λc ob q hx=>by obtain⟨o',e1⟩:=a.there c ob q hx;exact b.there c o' e1 hx
 rE:=λc xs q=>b.rE c xs (a.rE c xs q)
 qr:=λc ob xs q=>b.qr c ob xs (a.qr c ob xs q)
 pH:=λc ps q=>by obtain⟨m1,e1⟩:=a.pH c ps q;obtain⟨m2,e2⟩:=b.pH c _ e1;exact⟨m1++m2,by rw[e2,Array.append_assoc]⟩
def Un.kept (k:∀b u,h.get? b=some u->h'.get? b=some u):Un fs ex H H h h':=⟨λb ob q _ _ _=>k b ob q,λb ob q _ _ _=>⟨ob.slots,k b ob q⟩,λ_ _ _ n _=>n,λb ob q _=>⟨ob,k b ob q⟩,λ_ _ q=>q,λ_ _ _ q=>q,λ_ ps q=>⟨#[],by rw[q];simp⟩⟩
def Un.refl:Un fs ex H H h h:=Un.kept λ_ _ q=>q
def Un.laid (k:∀b u,h.get? b=some u->h'.get? b=some u) (hp:h.objs.size<=a) (hn:H a=none):Un fs ex H (upd H a o) h h' where
 keep:=λb u q _ _ _=>k b u q
 slot:=λb u q _ _ _=>⟨u.slots,k b u q⟩
 free:=λb u q n _=>by rw[bN (aW (aT (aG q) hp))];exact n
 there:=λb u q _=>⟨u,k b u q⟩
 rE:=λb xs q=>by rw[bN (h_ q hn)];exact q
 qr:=λb u xs q=>by rw[bN (h_ q hn)];exact q
 pH:=λb ps q=>⟨#[],by rw[bN (h_ q hn),q];simp⟩
def Un.write (mu:Vj (H x)) (he:e=x\/H e=some (.own x)) (k:∀b u,b≠e->h.get? b=some u->h'.get? b=some u) (Uv:∃u,h'.get? e=some u):Un fs ex H (upd H x o) h h':=by
 have hx:∀b,H b=none->b≠x:=λb n z=>by subst z;rw[n] at mu;exact mu
 have hb:∀b,H b=none->b≠e:=λb n z=>by
  subst z;rcases he with r|r
  .exact hx b n r
  .rw[n] at r;cases r
 have hm:∀b u,H b=some u->¬Vj (some u)->b≠x:=λb u q nm z=>by subst z;rw[q] at mu;exact nm mu
 refine⟨λb u q n _ _=>k b u (hb b n) q,λb u q n _ _=>⟨u.slots,k b u (hb b n) q⟩,λb u q n _=>by rw[bN (hx b n)];exact n,λb u q _=>?_,λb xs q=>by rw[bN (hm b _ q λz=>z)];exact q,λb u xs q=>by rw[bN (hm b _ q λz=>z)];exact q,λb ps q=>⟨#[],by rw[bN (hm b _ q λz=>z),q];simp⟩⟩;by_cases Qe:b=e
 .subst Qe;exact Uv
 .exact⟨u,k b u Qe q⟩
end
def wq (h:Heap) (H:Hp):List aq:=(List.range h.objs.size).filter λa=>(H a).isSome
def vQ (h:Heap) (H:Hp):Heap:=PySem.W.hideAll h (wq h H)
def Ey (h:Heap) (H:Hp):(vQ h H).objs.size=h.objs.size:=PySem.W.hideAll_size _ _
def Gx {H}(e:h.get? b=some o) (n:H b=none):(vQ h H).get? b=some o:=PySem.W.hideAll_get _ e λhm=>by have q:(H b).isSome=true:=(gA.mp hm).2;rw[n] at q;simp at q
def KN {H}(e:(vQ h H).get? b=some o):h.get? b=some o/\H b=none:=by
 have e':h.get? b=some o:=PySem.W.of_hideAll (wq h H) e;refine⟨e',?_⟩;cases q:H b with
 |none=>rfl
 |some x=>have hm:b∈wq h H:=gA.mpr ⟨ou.mpr (aG e'),by simp[q]⟩;have z:(vQ h H).get? b=none:=PySem.W.hideAll_none (wq h H) hm;rw[z] at e;cases e
def KO (g h:Heap) (L:aq):Aaa:=(List.range h.objs.size).filterMap λa=>if a=L\/(g.get? a).isSome=true then none else(h.get? a).map λo=>(a,o)
def rest (g h:Heap) (L d:aq):Aaa:=(KO g h L).filter λp=>decide (p.1≠d)
structure Mod (K:Φ) (mg:Aae) (base:Heap):Prop where
 sk:K.In base
 glob:base.Ns mainGlobals mg
 blt:∃mb,base.Ns builtinsNs mb/\∀x:Str,x≠"__name__"->mb x=bootBuiltins x
 nolimit:base.NoLimit
structure Cx where
 prog:aQ
 w:bg
 K:Φ
 mg:Str->Option ai
 base:Heap
 A:bL
 N:Aab
 iO:ar
 y_:Hp
 env:Env
 outer:List Env
 stack:List Env
 ex:List aq
 fn:Str->Bool
 calm:Bool
 pn:Aaa
 xe:ai->ar->Prop
def nV (l:List Env):List aq:=l.filterMap (·.frame)
abbrev Cx.fs (X:Cx):List aq:=nV X.outer
def Uw (sc:Scope) (x:Str):Prop:=sc.names.lookup x=some .local\/sc.names.lookup x=some .cell\/sc.names.lookup x=some .free
def Loc (sc:Scope) (x:Str):Prop:=sc.names.lookup x=some .local\/sc.names.lookup x=some .cell
def Look (env:Env) (h:Heap) (m:Aae) (x:Str) (u:ai):Prop:=(env.kindOf x=some .local/\m x=some u)\/((env.kindOf x=some .cell\/env.kindOf x=some .free)/\∃c,env.cells.lookup x=some c/\h.IsCell c (some u))
structure Cx.Ok (X:Cx):Prop where
 mod:Mod X.K X.mg X.base
 kind:X.env.scope.kind=.function
 glob:X.env.globals=mainGlobals
 blt:X.env.builtins=builtinsNs
 above:X.iO.heap.objs.size<=X.env.locals
 inj:∀x y c,X.env.cells.lookup x=some c->X.env.cells.lookup y=some c->x=y
 has:∀x,(X.env.kindOf x=some .cell\/X.env.kindOf x=some .free)->∃c,X.env.cells.lookup x=some c
 KP:∀x c,X.fn x=true->X.env.cells.lookup x=some c->X.iO.heap.objs.size<=c
 hd:X.calm=true->X.A.handled=none
 frames:X.A.frames=some X.stack
 Om:X.stack=X.outer\/(X.stack=X.env::X.outer/\X.env.frame=some X.env.locals)
 AY:∀b∈X.ex,b≠X.env.locals/\∀x c,X.env.cells.lookup x=some c->c≠b
 bs:∀b o,X.base.get? b=some o->X.iO.heap.get? b=some o/\X.y_ b=none
 CM:X.base.objs.size<=X.iO.heap.objs.size
 xE:∀b o,X.base.get? b=some o->b∉X.ex
 rF:∀b∈X.ex,b∉X.fs
 lY:X.iO.heap.FunFrames X.base X.outer
 Ez:∀b∈X.fs,X.y_ b=none
structure Inv (X:Cx) (ac:Aaa) (U:List (Option V)) (H:Hp) (s:ar):Prop where
 ok:X.Ok
 os:s.os=X.iO.os
 bare:AllBare s.gens
 base:Un X.fs X.ex X.y_ H X.iO.heap s.heap
 loc:∃m,s.heap.Ns X.env.locals m/\∀(i:Nat) (x:Str) (v:V),X.N[i]?=some x->U[i]?=some (some v)->Uw X.env.scope x->∃u,RelV v u/\Look X.env s.heap m x u
 cell:∀x c,X.env.cells.lookup x=some c->∃v,s.heap.IsCell c v
 free:H X.env.locals=none
 jL:∀x c,X.env.cells.lookup x=some c->H c=none
 pin:∀p∈X.pn++ac,s.heap.get? p.1=some p.2/\H p.1=none/\p.1≠X.env.locals/\p.1∉X.fs/\∀v,p.2.data≠.cell v
 dh:nU X.prog X.w H s.heap
 len:U.length=X.N.length
variable {X:Cx}{ac:Aaa}{s:ar}
section
variable {U:List (Option V)}{H H':Hp}{h':Heap}
def Cx.Ok.aac (ok:X.Ok) (e:X.base.get? b=some o):b∉X.fs:=λhb=>by have:=(ok.lY.mem hb).1;rw[e] at this;cases this
def Inv.bs (I:Inv X ac U H s):∀b o,X.base.get? b=some o->s.heap.get? b=some o/\H b=none:=λb o e=>
 ⟨I.base.keep b o (I.ok.bs b o e).1 (I.ok.bs b o e).2 (I.ok.aac e) (I.ok.xE b o e),I.base.free b o (I.ok.bs b o e).1 (I.ok.bs b o e).2 (I.ok.xE b o e)⟩
def Inv.bk (I:Inv X ac U H s):∀b o,X.base.get? b=some o->s.heap.get? b=some o:=λb o e=>(I.bs b o e).1
def Inv.mod (I:Inv X ac U H s):Mod X.K X.mg X.base:=I.ok.mod
def Inv.pJ (I:Inv X ac U H s):X.K.In s.heap:=I.ok.mod.sk.keeps I.bk
def Inv.nolimit (I:Inv X ac U H s):s.heap.NoLimit:=I.ok.mod.nolimit.keeps I.bk
def Inv.lt (I:Inv X ac U H s):X.env.locals<s.heap.objs.size:=let⟨_,hn,_⟩:=I.loc;hn.lt
def Inv.sz (I:Inv X ac U H s):X.iO.heap.objs.size<=s.heap.objs.size:=aB I.ok.above (d7 I.lt)
def Inv.Gy (I:Inv X ac U H s) (h:s.heap.objs.size<=a):a∉X.fs:=λhb=>by obtain⟨_,o,ho,_⟩:=I.ok.lY.mem hb;exact absurd (aT (aG ho) (aB I.sz h)) (cD _)
def Inv.Qf (I:Inv X ac U H s):∀x c,X.env.cells.lookup x=some c->c≠X.env.locals:=λx c e z=>by obtain⟨v,o,ho,hd⟩:=I.cell x c e;obtain⟨m,⟨o',es,ep,wt,hd',_⟩,_⟩:=I.loc;rw[z,wt] at ho;cases ho;rw[hd'] at hd;cases hd
def Inv.lY (I:Inv X ac U H s):s.heap.FunFrames X.base X.outer:=by
 have all:∀(l:List Env),(∀b∈nV l,b∈X.fs)->X.iO.heap.FunFrames X.base l->s.heap.FunFrames X.base l:=by
  intro l;induction l with
  |nil=>intro _ _;trivial
  |cons env r ih=>intro hs hl;obtain⟨hk,⟨L,o,hf,hn,ho,hd⟩,hr⟩:=hl;have hL:L∈X.fs:=hs L (by unfold nV;rw[mT,hf];exact bT);obtain⟨sl,e⟩:=I.base.slot L o ho (I.ok.Ez L hL) hL λz=>I.ok.rF L z hL;exact⟨hk,⟨L,_,hf,hn,e,hd⟩,ih (λb hb=>hs b (by unfold nV;rw[mT,hf];exact bJ _ hb)) hr⟩
 exact all X.outer (λ_ hb=>hb) I.ok.lY
def Inv.stack (I:Inv X ac U H s):s.heap.FunFrames X.base X.stack:=by
 rcases I.ok.Om with e|⟨e,hf⟩
 .rw[e];exact I.lY
 .rw[e];obtain⟨m,hn,_⟩:=I.loc;refine .cons (by rw[I.ok.kind];decide) hf hn ?_ I.lY;exact Heap.get?_none_of_le (aB I.ok.CM I.ok.above)
def Inv.rG (I:Inv X ac U H s):∀b∈nV X.stack,b∈X.env.locals::X.fs:=λb hb=>by
 rcases I.ok.Om with e|⟨e,hf⟩
 .rw[e] at hb;exact bJ _ hb
 .rw[e] at hb;unfold nV at hb;rw[mT,hf] at hb;exact hb
def Inv.xF (I:Inv X ac U H s):∀b∈nV X.stack,H b=none:=λb hb=>by
 rcases aU.mp (I.rG b hb) with e|hb
 .rw[e];exact I.free
 .obtain⟨_,o,ho,_⟩:=I.ok.lY.mem hb;exact I.base.free b o ho (I.ok.Ez b hb) λz=>I.ok.rF b z hb
def Inv.step {g':Array GenState}{t':Nat}{d':Drawn}{ch:List aq}(I:Inv X ac U H s) (J_:∀b∈ch,(b∈X.ex\/X.iO.heap.objs.size<=b)/\b≠X.env.locals/\(∀x c,X.env.cells.lookup x=some c->c≠b)/\∀p∈X.pn++ac,p.1≠b) (keep:∀b o,b≠X.env.locals->b∉X.fs->b∉ch->s.heap.get? b=some o->H b=none->h'.get? b=some o) (slot:∀b o,b≠X.env.locals->b∈X.fs->b∉ch->s.heap.get? b=some o->H b=none->∃sl,h'.get? b=some {o with slots:=sl}) (free:∀b o,b∉ch->s.heap.get? b=some o->H b=none->H' b=none) (there:∀b o,b∉ch->s.heap.get? b=some o->∃o',h'.get? b=some o') (rE:∀b xs,H b=some (.tup xs)->H' b=some (.tup xs)) (qr:∀b o u,H b=some (.Bj o u)->H' b=some (.Bj o u)) (pH:∀b ps,H b=some (.jT ps)->∃more,H' b=some (.jT (ps++more))) (ns:∀m,s.heap.Ns X.env.locals m->h'.Ns X.env.locals m) (dh:nU X.prog X.w H' h') (hg:AllBare g'):
  Inv X ac U H' {s with heap:=h',gens:=g',drawn:=d',toks:=t'}:=by
 have neL:∀b o,X.iO.heap.get? b=some o->b≠X.env.locals:=λb o e=>aW (aT (aG e) I.ok.above);have Oo:∀b o,X.iO.heap.get? b=some o->b∉X.ex->b∉ch:=λb o e hx hb=>by
  rcases(J_ b hb).1 with z|z
  .exact hx z
  .exact absurd (aT (aG e) z) (cD _)
 have cellK:∀x c,X.env.cells.lookup x=some c->∀v,s.heap.IsCell c v->h'.IsCell c v:=λx c e v ⟨o,ho,hd⟩=>by
  have Vn:c∉ch:=λz=>(J_ c z).2.2.1 x c e rfl;by_cases hc:c∈X.fs
  .obtain⟨sl,q⟩:=slot c o (I.Qf x c e) hc Vn ho (I.jL x c e);exact⟨_,q,hd⟩
  .exact⟨o,keep c o (I.Qf x c e) hc Vn ho (I.jL x c e),hd⟩
 refine⟨I.ok,I.os,hg,⟨λb o e n hb hx=>?_,λb o e n hb hx=>?_,λb o e n hx=>?_,λb o e hx=>?_,λb xs e=>rE b xs (I.base.rE b xs e),λb o xs e=>qr b o xs (I.base.qr b o xs e),λb ps e=>?_⟩,?_,λx c e=>?_,?_,λx c e=>?_,λp hp=>?_,dh,I.len⟩
 .exact keep b o (neL b o e) hb (Oo b o e hx) (I.base.keep b o e n hb hx) (I.base.free b o e n hx)
 .obtain⟨sl,e1⟩:=I.base.slot b o e n hb hx;obtain⟨Vm,e2⟩:=slot b _ (neL b o e) hb (Oo b o e hx) e1 (I.base.free b o e n hx);exact⟨Vm,e2⟩
 .obtain⟨o',e1⟩:=I.base.there b o e hx;exact free b o' (Oo b o e hx) e1 (I.base.free b o e n hx)
 .obtain⟨o',e1⟩:=I.base.there b o e hx;exact there b o' (Oo b o e hx) e1
 .obtain⟨m1,e1⟩:=I.base.pH b ps e;obtain⟨m2,e2⟩:=pH b _ e1;exact⟨m1++m2,by rw[e2,Array.append_assoc]⟩
 .obtain⟨m,hn,hl⟩:=I.loc;refine⟨m,ns m hn,λi x v e1 e2 e3=>?_⟩;obtain⟨u,r,l⟩:=hl i x v e1 e2 e3;refine⟨u,r,?_⟩;rcases l with l|⟨k,c,e,z⟩
  .exact .inl l
  .exact .inr ⟨k,c,e,cellK x c e _ z⟩
 .obtain⟨v,z⟩:=I.cell x c e;exact⟨v,cellK x c e v z⟩
 .obtain⟨m,⟨o,_,_,ho,_⟩,_⟩:=I.loc;exact free _ o (λz=>(J_ _ z).2.1 rfl) ho I.free
 .obtain⟨v,o,ho,hd⟩:=I.cell x c e;exact free c o (λz=>(J_ c z).2.2.1 x c e rfl) ho (I.jL x c e)
 .obtain⟨e,n,ne,nf,d⟩:=I.pin p hp;have Vn:p.1∉ch:=λz=>(J_ p.1 z).2.2.2 p hp rfl;exact⟨keep p.1 p.2 ne nf Vn e n,free p.1 p.2 Vn e n,ne,nf,d⟩
def Inv.un {t':Nat}(I:Inv X ac U H s) (u:Un X.fs [] H H' s.heap h') (dh:nU X.prog X.w H' h'):Inv X ac U H' {s with heap:=h',toks:=t'}:=by obtain⟨m,⟨o,es,ep,ho,r⟩,_⟩:=id I.loc;obtain⟨sl,hL⟩:=u.any ho I.free ς;exact I.step (g':=s.gens) (d':=s.drawn) (ch:=[]) (λ_ z=>nomatch z) (λb o _ hb _ e n=>u.keep b o e n hb ς) (λb o _ hb _ e n=>u.slot b o e n hb ς) (λb o _ e n=>u.free b o e n ς) (λb o _ e=>u.there b o e ς) u.rE u.qr u.pH (λm' hm=>by obtain⟨o',es',ep',wt,r'⟩:=hm;rw[ho] at wt;cases wt;exact⟨_,es',ep',hL,r'⟩) dh I.bare
def Inv.call {g':Array GenState}{t':Nat}{d':Drawn}{ch:List aq}(I:Inv X ac U H s) (u:Un (nV X.stack) ch H H' s.heap h') (dh:nU X.prog X.w H' h') (hg:AllBare g') (J_:∀b∈ch,(b∈X.ex\/X.iO.heap.objs.size<=b)/\b≠X.env.locals/\(∀x c,X.env.cells.lookup x=some c->c≠b)/\∀p∈X.pn++ac,p.1≠b):
  Inv X ac U H' {s with heap:=h',gens:=g',drawn:=d',toks:=t'}:=by
 obtain⟨m,⟨o,es,ep,ho,r⟩,_⟩:=id I.loc;obtain⟨sl,hL⟩:=u.any ho I.free λz=>(J_ _ z).2.1 rfl;exact I.step (ch:=ch) J_ (λb o hL hb hc e n=>u.keep b o e n (λz=>(aU.mp (I.rG b z)).elim hL hb) hc) (λb o _ _ hc e n=>u.any e n hc) (λb o hc e n=>u.free b o e n hc) (λb o hc e=>u.there b o e hc) u.rE u.qr u.pH (λm' hm=>by obtain⟨o',es',ep',wt,r'⟩:=hm;rw[ho] at wt;cases wt;exact⟨_,es',ep',hL,r'⟩) dh hg
def Inv.turned {t':Nat}{it:aq}(I:Inv X ac U H s) (k:∀b o,b≠it->s.heap.get? b=some o->h'.get? b=some o) (hn:H it=none) (hL:it≠X.env.locals) (h1:it∈X.ex\/X.iO.heap.objs.size<=it) (h2:∀x c,X.env.cells.lookup x=some c->c≠it) (h3:∀p∈X.pn++ac,p.1≠it):Inv X ac U H {s with heap:=h',toks:=t'}:=by
 have Ka:∀b u,H b=some u->b≠it:=λb u e z=>by rw[z,hn] at e;cases e
 refine I.step (g':=s.gens) (d':=s.drawn) (ch:=[it]) (λb hb=>?_) (λb o _ _ hc e _=>k b o (λz=>hc (by simp[z])) e) (λb o _ _ hc e _=>⟨o.slots,k b o (λz=>hc (by simp[z])) e⟩) (λ_ _ _ _ n=>n) (λb o hc e=>⟨o,k b o (λz=>hc (by simp[z])) e⟩) (λ_ _ e=>e) (λ_ _ _ e=>e) (λb ps e=>⟨#[],by rw[e];simp⟩) (λm hm=>?_) (λb u e=>?_) I.bare
 .have e:b=it:=by simpa using hb
  subst e;exact⟨h1,hL,h2,h3⟩
 .obtain⟨o,es,ep,ho,r⟩:=hm;exact⟨o,es,ep,k _ o (eJ hL) ho,r⟩
 .refine(I.dh b u e).vP (λc v hc q=>k c v ?_ q) (λ_ q=>q) λ_ _ q=>q;rcases hc with z|z
  .rw[z];exact Ka b u e
  .exact Ka c _ z
def Inv.tok (I:Inv X ac U H s) (t:Nat):Inv X ac U H {s with toks:=t}:=I.un (h':=s.heap) (t':=t) Un.refl I.dh
def Inv.kept {t':Nat}(I:Inv X ac U H s) (k:∀b u,s.heap.get? b=some u->h'.get? b=some u):Inv X ac U H {s with heap:=h',toks:=t'}:=I.un (Un.kept k) (I.dh.kept k)
def Inv.laid {a:aq}{o:HO}{t':Nat}(I:Inv X ac U H s) (k:∀b u,s.heap.get? b=some u->h'.get? b=some u) (hp:s.heap.objs.size<=a) (new:fD X.prog X.w (upd H a o) h' a o):
  Inv X ac U (upd H a o) {s with heap:=h',toks:=t'}:=I.un (Un.laid k hp (I.dh.fresh hp)) (I.dh.laid k hp new)
def Inv.write {x e:aq}{o:HO}{t':Nat}(I:Inv X ac U H s) (mu:Vj (H x)) (he:e=x\/H e=some (.own x)) (k:∀b u,b≠e->s.heap.get? b=some u->h'.get? b=some u) (Uv:∃u,h'.get? e=some u) (new:fD X.prog X.w (upd H x o) h' x o):Inv X ac U (upd H x o) {s with heap:=h',toks:=t'}:=I.un (Un.write mu he k Uv) (I.dh.write mu he k Uv new)
def Inv.nW (I:Inv X ac U H s) (h:∀p∈gM,s.heap.get? p.1=some p.2/\H p.1=none/\p.1≠X.env.locals/\p.1∉X.fs/\∀v,p.2.data≠.cell v):Inv X gM U H s:=⟨I.ok,I.os,I.bare,I.base,I.loc,I.cell,I.free,I.jL,λp hp=>(aX.mp hp).elim (λz=>I.pin p (bh _ z)) (h p),I.dh,I.len⟩
def zd {N:Aab}(hN:N.Nodup) {i j:Nat}(a:N[i]?=some x) (b:N[j]?=some x):i=j:=by obtain⟨h1,e1⟩:=aF.mp a;obtain⟨h2,e2⟩:=aF.mp b;exact(List.getElem_inj hN).mp (e1.trans e2.symm)
def nX {M:Model}{A:bL}{E:Aaf}{i:Nat}{x:Str}{v:V}{u:ai}{Q:Unit->ar->Prop}(I:Inv X ac U H s) (hN:X.N.Nodup) (hi:X.N[i]?=some x) (hx:Loc X.env.scope x) (r:RelV v u) (h:∀s',Inv X ac (U.set i (some v)) H s'->(∃a,Heap.SameBut a s.heap s'.heap/\(a=X.env.locals\/X.env.cells.lookup x=some a))->Q () s') (hf:X.fn x=true\/X.env.scope.names.lookup x=some .local:=by first|exact .inl rfl|exact .inr rfl|assumption):wpAny M A (storeName X.env x u) Q E s:=by
 obtain⟨m,hn,hl⟩:=id I.loc;have aad:(X.env.scope.kind== .class||(X.env.scope.kind== .module&&X.env.locals !=X.env.globals))=false:=by rw[I.ok.kind];rfl
 have Vo:i<U.length:=by rw[I.len];exact(aF.mp hi).1
 have Qf:=I.Qf;have tracked:∀{a:aq} {h':Heap},(∃o,s.heap.get? a=some o/\H a=none)->Heap.SameBut a s.heap h'->nU X.prog X.w H h':=λ{a h'} ha hs b ob e=>by
  obtain⟨_,_,CO⟩:=ha;refine(I.dh b ob e).vP (λc w' hc q=>(hs.2 c ?_).trans q) (λ_ q=>q) λ_ _ q=>q;rintro rfl;rcases hc with rfl|hc
  .rw[CO] at e;cases e
  .rw[CO] at hc;cases hc
 rcases hx with hk|hk
 .refine wpAny_storeName_local hk hn (λh' hn' hs=>?_) aad;obtain⟨oL,_,_,hoL,_⟩:=id hn;refine h _ ⟨I.ok,I.os,I.bare,⟨λb o e n hb hx=>?_,λb o e n hb hx=>?_,I.base.free,λb o e hx=>?_,I.base.rE,I.base.qr,I.base.pH⟩,⟨_,hn',λj y v' e1 e2 e3=>?_⟩,λy c e=>?_,I.free,I.jL,λp hp=>?_,tracked ⟨oL,hoL,I.free⟩ hs,by simpa using I.len⟩ ⟨_,hs,.inl rfl⟩
  .exact(hs.2 b (aW (aT (aG e) I.ok.above))).trans (I.base.keep b o e n hb hx)
  .obtain⟨sl,e1⟩:=I.base.slot b o e n hb hx;exact⟨sl,(hs.2 b (aW (aT (aG e) I.ok.above))).trans e1⟩
  .obtain⟨o',e1⟩:=I.base.there b o e hx;exact⟨o',(hs.2 b (aW (aT (aG e) I.ok.above))).trans e1⟩
  .by_cases hj:j=i
   .subst hj;rw[hi] at e1;cases e1;rw[U9 Vo] at e2;cases e2;exact⟨u,r,.inl ⟨hk,ς⟩⟩
   .rw[List.getElem?_set_ne (eJ hj)] at e2;obtain⟨u',r',q⟩:=hl j y v' e1 e2 e3;refine⟨u',r',?_⟩;rcases q with⟨k,e⟩|⟨k,c,e,z⟩
    .refine .inl ⟨k,?_⟩;have:y≠x:=λe=>hj (zd hN e1 (e▸hi));simp[this,e]
    .exact .inr ⟨k,c,e,z.sameBut hs (Qf y c e)⟩
  .obtain⟨w',z⟩:=I.cell y c e;exact⟨w',z.sameBut hs (Qf y c e)⟩
  .obtain⟨e,n,ne,nf,d⟩:=I.pin p hp;exact⟨(hs.2 p.1 ne).trans e,n,ne,nf,d⟩
 .have Kb:X.fn x=true:=by
   rcases hf with z|z
   .exact z
   .rw[z] at hk;cases hk
  obtain⟨c,hc⟩:=I.ok.has x (.inl hk);obtain⟨w',z⟩:=I.cell x c hc;refine wpAny_storeName_cell I.ok.kind hk hc z (λh' ze hs=>?_);obtain⟨oc,Qg,aae⟩:=id z;refine h {s with heap:=h'} ⟨I.ok,I.os,I.bare,⟨λb o e n hb hx=>?_,λb o e n hb hx=>?_,I.base.free,λb o e hx=>?_,I.base.rE,I.base.qr,I.base.pH⟩,⟨m,hn.sameBut hs (eJ (Qf x c hc)),λj y v' e1 e2 e3=>?_⟩,λy c' e=>?_,I.free,I.jL,λp hp=>?_,tracked ⟨oc,Qg,I.jL x c hc⟩ hs,by simpa using I.len⟩ ⟨c,hs,.inr hc⟩
  .exact(hs.2 b (aW (aT (aG e) (I.ok.KP x c Kb hc)))).trans (I.base.keep b o e n hb hx)
  .obtain⟨sl,e1⟩:=I.base.slot b o e n hb hx;exact⟨sl,(hs.2 b (aW (aT (aG e) (I.ok.KP x c Kb hc)))).trans e1⟩
  .obtain⟨o',e1⟩:=I.base.there b o e hx;exact⟨o',(hs.2 b (aW (aT (aG e) (I.ok.KP x c Kb hc)))).trans e1⟩
  .by_cases hj:j=i
   .subst hj;rw[hi] at e1;cases e1;rw[U9 Vo] at e2;cases e2;exact⟨u,r,.inr ⟨.inl hk,c,hc,ze⟩⟩
   .rw[List.getElem?_set_ne (eJ hj)] at e2;obtain⟨u',r',q⟩:=hl j y v' e1 e2 e3;refine⟨u',r',?_⟩;rcases q with q|⟨k,c',e,z'⟩
    .exact .inl q
    .refine .inr ⟨k,c',e,z'.sameBut hs ?_⟩;rintro rfl;exact hj (zd hN e1 (I.ok.inj _ _ _ e hc▸hi))
  .by_cases hcc:c'=c
   .subst hcc;exact⟨_,ze⟩
   .obtain⟨w2,z2⟩:=I.cell y c' e;exact⟨w2,z2.sameBut hs hcc⟩
  .obtain⟨e,n,ne,nf,d⟩:=I.pin p hp;refine⟨(hs.2 p.1 ?_).trans e,n,ne,nf,d⟩;intro q;rw[q,Qg] at e;have q':oc=p.2:=bf e;exact d w' (by rw[<-q'];exact aae)
def m9 (I:Inv X ac U H s) (hN:X.N.Nodup) (hi:X.N[i]?=some x) (hx:Loc X.env.scope x) (r:RelV v u) (h:∀s',Inv X ac (U.set i (some v)) H s'->Q () s') (hf:X.fn x=true\/X.env.scope.names.lookup x=some .local:=by first|exact .inl rfl|exact .inr rfl|assumption):wpAny M A (storeName X.env x u) Q E s:=nX I hN hi hx r (λs' I' _=>h s' I') hf
def Inv.Gz {s':ar}{ch:List aq}(I:Inv X ac U H s) (ho:s'.os=s.os) (u:Un (nV X.stack) ch H H' s.heap s'.heap) (dh:nU X.prog X.w H' s'.heap) (hg:AllBare s'.gens) (J_:∀b∈ch,(b∈X.ex\/X.iO.heap.objs.size<=b)/\b≠X.env.locals/\(∀x c,X.env.cells.lookup x=some c->c≠b)/\∀p∈X.pn++ac,p.1≠b):Inv X ac U H' s':=by obtain⟨h',g',d',t',o'⟩:=s';have e:o'=s.os:=ho;subst e;exact I.call (g':=g') (t':=t') (d':=d') u dh hg J_
end
abbrev XK:=ai->Option aq->Hp->Prop
abbrev St:=List (Option V)
abbrev VK:=V->Hp->Prop
abbrev TE:=St->Hp->VK->Prop
abbrev TT:=St->Hp->(Bool->Hp->Prop)->Prop
abbrev TA:=St->Hp->(Aac->Hp->Prop)->Prop
structure Ends where
 nx:St->Hp->Prop
 rt:VK
 bk:St->Hp->Prop:=λ_ _=>False
 ct:St->Hp->Prop:=λ_ _=>False
abbrev TS:=Ends->St->Hp->Prop
def EP (X:Cx) (ac:Aaa) (U:St) (Q:VK) (u:ai) (s':ar):Prop:=∃v H',Inv X ac U H' s'/\RelV v u/\Q v H'
def TP (X:Cx) (ac:Aaa) (U:St) (Q:Bool->Hp->Prop) (b:Bool) (s':ar):Prop:=∃H',Inv X ac U H' s'/\Q b H'
def AP (X:Cx) (ac:Aaa) (U:St) (Q:Aac->Hp->Prop) (us:Aad) (s':ar):Prop:=∃vs H',Inv X ac U H' s'/\cx vs us/\Q vs H'
def SP (X:Cx) (ac:Aaa) (D:Ends) (f:Flow) (s':ar):Prop:=match f with
 | .next=>∃de H',Inv X ac de H' s'/\D.nx de H'
 | .brk=>∃de H',Inv X ac de H' s'/\D.bk de H'
 | .cont=>∃de H',Inv X ac de H' s'/\D.ct de H'
 | .ret u=>∃v de H',Inv X ac de H' s'/\RelV v u/\D.rt v H'
def PE (X:Cx) (e:Expr) (t:TE):Prop:=∀(ac:Aaa) (s:ar) (U:St) (H:Hp) (Q:VK),Inv X ac U H s->t U H Q->wpAny (model X.prog X.w) X.A (eval e X.env) (EP X ac U Q) X.xe s
def PT (X:Cx) (e:Expr) (t:TT):Prop:=∀(ac:Aaa) (s:ar) (U:St) (H:Hp) (Q:Bool->Hp->Prop),Inv X ac U H s->t U H Q->wpAny (model X.prog X.w) X.A (isTrue e X.env (eval e X.env)) (TP X ac U Q) X.xe s
def PW (X:Cx) (e:Expr) (t:TT):Prop:=∀(whole:Sem ai) (ac:Aaa) (s:ar) (U:St) (H:Hp) (Q:Bool->Hp->Prop),Inv X ac U H s->t U H Q->wpAny (model X.prog X.w) X.A (isTrue e X.env whole) (TP X ac U Q) X.xe s
def PW.pt (h:PW X e t):PT X e t:=h _
def PA (X:Cx) (es:List Expr) (t:TA):Prop:=∀(pos:Pos) (ac:Aaa) (s:ar) (U:St) (H:Hp) (Q:Aac->Hp->Prop),Inv X ac U H s->t U H Q->wpAny (model X.prog X.w) X.A (spliced (backTo pos (starEach es X.env))) (AP X ac U Q) X.xe s
def PS (X:Cx) (st:Stmt) (t:TS):Prop:=∀(ac:Aaa) (s:ar) (U:St) (H:Hp) (D:Ends),Inv X ac U H s->t D U H->wpAny (model X.prog X.w) X.A (exec st X.env) (SP X ac D) X.xe s
def su (X:Cx) (st:List Stmt) (t:TS):Prop:=∀(ac:Aaa) (s:ar) (U:St) (H:Hp) (D:Ends),Inv X ac U H s->t D U H->wpAny (model X.prog X.w) X.A (execs st X.env) (SP X ac D) X.xe s
def dq {α:Type}{t:Sem α}{Q Q':α->ar->Prop}{M:Model}{A:bL}{E:Aaf}{s:ar}(h:wpAny M A t Q E s) (hQ:∀a s,Q a s->Q' a s):wpAny M A t Q' E s:=aN h hQ λ_ _ x=>x
section
def bin {a b:Expr}{ta tb:TE}(ha:PE X a ta) (hb:PE X b tb) {ac:Aaa}{s:ar}{U:St}{H:Hp}{R:V->V->Hp->Prop}(I:Inv X ac U H s) (h:ta U H λx H1=>tb U H1 λy H2=>R x y H2) {α:Type} {Q:α->ar->Prop} {f:ai->ai->Sem α}(hf:∀v u s2 x y H2,Inv X ac U H2 s2->RelV x v->RelV y u->R x y H2->wpAny (model X.prog X.w) X.A (f v u) Q X.xe s2):
  wpAny (model X.prog X.w) X.A (eval a X.env) (λv cZ=>wpAny (model X.prog X.w) X.A (eval b X.env) (λu jB=>wpAny (model X.prog X.w) X.A (f v u) Q X.xe jB) X.xe cZ) X.xe s:=by
 refine dq (ha ac s U H _ I h) λv s1 ⟨x,H1,I1,r1,q1⟩=>?_;refine dq (hb ac s1 U H1 _ I1 q1) λu s2 ⟨y,H2,I2,r2,q2⟩=>?_;exact hf v u s2 x y H2 I2 r1 r2 q2
def KQ (i:Nat):TE:=λU H Q=>∃v,U[i]?=some (some v)/\Q v H
def tC (v:V):TE:=λ_ H Q=>Q v H
def GA (hN:X.N[i]?=some x) (hv:Uw X.env.scope x) (hd:(x==("__debug__":Str))=false:=by decide) (mX:(x==("__classdict__":Str))=false:=by decide):PE X (.Name x pos) (KQ i):=by
 intro ac s U H Q I h;obtain⟨v,e,h⟩:=h;obtain⟨m,hn,hl⟩:=I.loc;obtain⟨u,r,l⟩:=hl i x v hN e hv;have fin:EP X ac U Q u s:=⟨v,H,I,r,h⟩;rcases l with⟨hk,hm⟩|⟨hk,c,hc,CP⟩
 .exact wpAny_Name (wpAny_loadName_local I.ok.kind hk hn hm fin) hd
 .rcases hk with hk|hk
  .exact wpAny_Name (wpAny_loadName_cell I.ok.kind hk hc CP fin) hd
  .exact wpAny_Name (wpAny_loadName_free I.ok.kind hk hc CP fin mX) hd
def aH {i j pos}:PE X (.Constant (.int i) j pos) (tC (.int i)):=λ_ _ _ H _ I h=>wpAny_Constant_int ⟨.int i,H,I.tok _,⟨_,rfl⟩,h⟩
def o6 {b j pos}:PE X (.Constant (.bool b) j pos) (tC (.bl b)):=λ_ _ _ H _ I h=>Constant_bool ⟨.bl b,H,I,rfl,h⟩
def jK {j pos}:PE X (.Constant .none j pos) (tC .e_):=λ_ _ _ H _ I h=>Constant_none ⟨.e_,H,I,rfl,h⟩
def f_ {x j pos}:PE X (.Constant (.str x) j pos) (tC (.str x)):=λ_ _ _ H _ I h=>Calls.Constant_str ⟨.str x,H,I.tok _,⟨_,rfl⟩,h⟩
def Gl (X:Cx) (x:Str):Prop:=X.env.kindOf x=some .globalImplicit
def lZ {H}{s}(I:Inv X ac U H s) (hg:Gl X x) (hm:X.mg x=some u) (h:Q u s) (hd:(x==("__debug__":Str))=false:=by decide):wpAny (model X.prog X.w) X.A (eval (.Name x pos) X.env) Q E s:=Calls.Name_function_global I.ok.kind hg (Calls.loadGlobal_global (by rw[I.ok.glob];exact I.mod.glob.keeps I.bk) hm h) hd
def kQ {H}{s}(I:Inv X ac U H s) (hg:Gl X x) (hm:X.mg x=none) (hv:bootBuiltins x=some u) (h:Q u s) (hn:x≠"__name__":=by decide) (hd:(x==("__debug__":Str))=false:=by decide):wpAny (model X.prog X.w) X.A (eval (.Name x pos) X.env) Q E s:=by obtain⟨mb,h1,h2⟩:=I.mod.blt;exact Calls.Name_function_global I.ok.kind hg (Calls.loadGlobal_builtin (by rw[I.ok.glob];exact I.mod.glob.keeps I.bk) hm (by rw[I.ok.blt];exact h1.keeps I.bk) ((h2 x hn).trans hv) h) hd
def l_ {x:Str}{v:V}{u:ai}{pos:Pos}(hg:Gl X x) (hm:X.mg x=some u) (r:RelV v u) (hd:(x==("__debug__":Str))=false:=by decide):PE X (.Name x pos) (tC v):=λ_ _ _ H _ I h=>lZ I hg hm ⟨v,H,I,r,h⟩ hd
def nY (hg:Gl X x) (hm:X.mg x=none) (hv:bootBuiltins x=some u) (r:RelV v u) (hn:x≠"__name__":=by decide) (hd:(x==("__debug__":Str))=false:=by decide):PE X (.Name x pos) (tC v):=λ_ _ _ H _ I h=>kQ I hg hm hv ⟨v,H,I,r,h⟩ hn hd
variable {a b:Expr}{ta tb:TE}{pos:Pos}
def PC (X:Cx) (op:CmpOp) (a b:Expr) (t:TE):Prop:=∀(ac:Aaa) (s:ar) (U:St) (H:Hp) (Q:VK),Inv X ac U H s->t U H Q-> wpAny (model X.prog X.w) X.A (eval a X.env) (λv cZ=>wpAny (model X.prog X.w) X.A (eval b X.env) (λu jB=>wpAny (model X.prog X.w) X.A (compareOp op v u) (EP X ac U Q) X.xe jB) X.xe cZ) X.xe s
def GB (b:Expr) (h:op≠.In) (h2:op≠.NotIn):behindInMarks op b=false:=by
 have e1:(op==CmpOp.In)=false:=by cases op<;>first|rfl|exact absurd rfl h
 have e2:(op==CmpOp.NotIn)=false:=by cases op<;>first|rfl|exact absurd rfl h2
 cases b<;>simp[behindInMarks,e1,e2]
def tB (t:TE):TT:=λU H Q=>t U H λx H1=>∃c,x=.bl c/\Q c H1
def aaf (h:PC X op a b t) (h1:behindInMarks op b=false:=by first|exact GB _ δ δ|rfl):PT X (.Compare a [op] [b] pos) (tB t):=by intro ac s U H Q I hw;refine yZ (dq (h ac s U H _ I hw) λv s1 h1=>dq h1 λu s2 h2=>dq h2 λc s3 ⟨x,H1,I1,r1,q1⟩=>?_) h1;obtain⟨d,rfl,q⟩:=q1;cases r1;exact bB ⟨H1,I1,q⟩
def GC {e:Expr}{t:TE}(h:PE X e t) (he:∀whole,isTrue e X.env whole=(do let v<-whole;standAt e.pos;holding [v] (truthy v)):=by intro _;rfl):PT X e (tB t):=by intro ac s U H Q I hw;refine isTrue_plain (dq (h ac s U H _ I hw) λv s1 ⟨x,H1,I1,r1,q1⟩=>?_) (he _);obtain⟨d,rfl,q⟩:=q1;cases r1;exact bB ⟨H1,I1,q⟩
variable {tA Ux:TT}{rest:List Expr}
def tOr (t u:TT):TT:=λU H Q=>t U H λc H1=>if c=true then Q true H1 else u U H1 Q
def aag (t:TT):TT:=λU H Q=>t U H λc H1=>Q (!c) H1
def qt (ha:PT X a tA):PW X (.BoolOp .And [a] pos) tA:=by
 intro wh ac s U H Q I h;refine isTrue_and (dq (ha ac s U H Q I h) λc s1 e=>?_);cases c with
 |true=>exact isTrue_and_nil e
 |false=>exact e
def pK (ha:PT X a tA):PW X (.BoolOp .Or [a] pos) tA:=by
 intro wh ac s U H Q I h;refine isTrue_or (dq (ha ac s U H Q I h) λc s1 e=>?_);cases c with
 |false=>exact isTrue_or_nil e
 |true=>exact e
def Oq (ha:PT X a tA) (hb:PW X (.BoolOp .Or (b::rest) pos) Ux):PW X (.BoolOp .Or (a::b::rest) pos) (tOr tA Ux):=by
 intro wh ac s U H Q I h;refine isTrue_or (dq (ha ac s U H _ I h) λc s1 ⟨H1,I1,q1⟩=>?_);cases c with
 |true=>exact⟨H1,I1,q1⟩
 |false=>exact hb wh ac s1 U H1 Q I1 q1
def ib (ha:PT X a tA):PT X (.UnaryOp .Not a pos) (aag tA):=by intro ac s U H Q I h;exact isTrue_not (ha ac s U H (λc H1=>Q (!c) H1) I h)
def Vp (ta tb:TE):TE:=λU H Q=>ta U H λx H1=>∃c,x=.bl c/\if c=true then tb U H1 Q else Q (.bl false) H1
def Vq (ta:TE):TE:=λU H Q=>ta U H λx H1=>∃c,x=.bl c/\Q (.bl (!c)) H1
def ma {op}(h:PE X a t):PE X (.BoolOp op [a] pos) t:=λac s U H Q I hw=>BoolOp_one (h ac s U H Q I hw)
def xG (ha:PE X a ta) (hb:PE X (.BoolOp .And (b::rest) pos) tb):PE X (.BoolOp .And (a::b::rest) pos) (Vp ta tb):=by
 intro ac s U H Q I h;refine BoolOp_and (dq (ha ac s U H _ I h) λv s1 ⟨x,H1,I1,r1,q1⟩=>?_);obtain⟨c,rfl,q1⟩:=q1;cases r1;refine bB ?_;cases c with
 |true=>exact hb ac s1 U H1 Q I1 q1
 |false=>exact⟨.bl false,H1,I1,rfl,q1⟩
def Qh (ha:PE X a ta):PE X (.UnaryOp .Not a pos) (Vq ta):=by intro ac s U H Q I h;refine UnaryOp_ (dq (ha ac s U H _ I h) λv s1 ⟨x,H1,I1,r1,q1⟩=>?_);obtain⟨c,rfl,q1⟩:=q1;cases r1;exact not_of (bB ⟨.bl (!c),H1,I1,rfl,q1⟩)
end
def gj (K:Φ) (H:Hp) (a:aq) (xs:Aac):Prop:=Rd H a (.lst xs)\/
  ∃(o:Obj) (bV:Array ai) (n:Nat),K.lookup a=some o/\o.cls=.type "list"/\o.dict=none/\o.data=.seq bV n/\bV.size<=sizeLine/\cx xs bV.toList
def iY (K:Φ) (H:Hp) (a:aq) (xs:Aac):Prop:=Rd H a (.tup xs)\/
  ∃(o:Obj) (bV:Array ai) (n:Nat),K.lookup a=some o/\o.cls=.type "tuple"/\o.data=.seq bV n/\bV.size<=sizeLine/\cx xs bV.toList
def aah:ai->Option V
 | .none=>some .e_
 | .bool b=>some (.bl b)
 | .int i _=>some (.int i)
 | .str x _=>some (.str x)
 | .bytes b _=>some (.CL b)
 | .float b _=>some (.si b)
 | .ref a=>some (.ref a)
 | .type n=>some (.ty n)
 |_=>none
def RelV.abs (r:RelV x u):aah u=some x:=by
 cases x with
 |e_=>cases r;rfl
 |bl _=>cases r;rfl
 |int _=>obtain⟨t,rfl⟩:=r;rfl
 |str _=>obtain⟨t,rfl⟩:=r;rfl
 |CL _=>obtain⟨t,rfl⟩:=r;rfl
 |si _=>obtain⟨t,rfl⟩:=r;rfl
 |ref _=>cases r;rfl
 |ty _=>cases r;rfl
def RelV.inj (r:RelV x u) (q:RelV y u):x=y:=bf (r.abs.symm.trans q.abs)
def cx.inj:∀{xs ys:Aac}{us:Aad},cx xs us->cx ys us->xs=ys
 |_,_,_,.nil,.nil=>rfl
 |_,_,_,.cons r t,.cons r' t'=>by rw[r.inj r',cx.inj t t']
variable {U:St}
section
variable {a:aq}{xs ys:Aac}
def gj.of {K:Φ}(h:H a=some (.lst xs)):gj K H a xs:=.inl (.inl h)
def iY.of {K:Φ}(h:H a=some (.tup xs)):iY K H a xs:=.inl (.inl h)
def Inv.list (I:Inv X ac U H s) (h:gj X.K H a xs):∃bV:Aad,cx xs bV/\PlainL s.heap a bV.toArray/\xs.length<=sizeLine:=by
 rcases h with h|⟨o,bV,n,hk,hc,hd,hs,hz,r⟩
 .obtain⟨z,bV,n,r,e⟩:=h.ok I.dh;exact⟨bV,r,⟨_,n,e,rfl,rfl,rfl⟩,z⟩
 .refine⟨bV.toList,r,⟨o,n,I.pJ a o hk,hc,hd,by simpa using hs⟩,?_⟩;have e:=r.length;simp only[eG] at e;omega
def Inv.tuple (I:Inv X ac U H s) (h:iY X.K H a xs):∃bV:Aad,cx xs bV/\IsTup s.heap a bV.toArray/\xs.length<=sizeLine:=by
 rcases h with h|⟨o,bV,n,hk,hc,hs,hz,r⟩
 .obtain⟨z,bV,r,p⟩:=h.ok I.dh;exact⟨bV,r,p.isTup,z⟩
 .refine⟨bV.toList,r,⟨o,I.pJ a o hk,hc,n,by simpa using hs⟩,?_⟩;have e:=r.length;simp only[eG] at e;omega
def Inv.zf (I:Inv X ac U H s) (h:gj X.K H a xs) (h':gj X.K H a ys):xs=ys:=by
 obtain⟨bV,r,⟨o,n,e,_,_,d⟩,_⟩:=I.list h;obtain⟨its',r',⟨o',n',e',_,_,d'⟩,_⟩:=I.list h';rw[e] at e';cases e';rw[d] at d';injection d' with d1 _;have:bV=its':=by simpa using dA Array.toList d1
 subst this;exact r.inj r'
def Inv.nZ (I:Inv X ac U H s) (h:iY X.K H a xs) (h':iY X.K H a ys):xs=ys:=by
 obtain⟨bV,r,⟨o,e,_,n,d⟩,_⟩:=I.tuple h;obtain⟨its',r',⟨o',e',_,n',d'⟩,_⟩:=I.tuple h';rw[e] at e';cases e';rw[d] at d';injection d' with d1 _;have:bV=its':=by simpa using dA Array.toList d1
 subst this;exact r.inj r'
end
abbrev Cx.uw (X:Cx) (E:Aaf):Cx:={X with xe:=E}
abbrev Cx.Bk (X:Cx):Cx:=X.uw λ_ _=>False
def Cx.Ok.uw {X:Cx}(ok:X.Ok) (E:Aaf):(X.uw E).Ok:=⟨ok.mod,ok.kind,ok.glob,ok.blt,ok.above,ok.inj,ok.has,ok.KP,ok.hd,ok.frames,ok.Om,ok.AY,ok.bs,ok.CM,ok.xE,ok.rF,ok.lY,ok.Ez⟩
def Cx.Ok.md {X:Cx}(ok:(X.uw E).Ok):X.Ok:=⟨ok.mod,ok.kind,ok.glob,ok.blt,ok.above,ok.inj,ok.has,ok.KP,ok.hd,ok.frames,ok.Om,ok.AY,ok.bs,ok.CM,ok.xE,ok.rF,ok.lY,ok.Ez⟩
variable {E:Aaf}
def Inv.uw (I:Inv X ac U H s) (E:Aaf):Inv (X.uw E) ac U H s:=⟨I.ok.uw E,I.os,I.bare,I.base,I.loc,I.cell,I.free,I.jL,I.pin,I.dh,I.len⟩
def Inv.md (I:Inv (X.uw E) ac U H s):Inv X ac U H s:=⟨I.ok.md,I.os,I.bare,I.base,I.loc,I.cell,I.free,I.jL,I.pin,I.dh,I.len⟩
def SP.md (h:SP (X.uw E) ac D f s'):SP X ac D f s':=by
 cases f with
 |next=>obtain⟨de,H',I,q⟩:=h;exact⟨de,H',I.md,q⟩
 |brk=>obtain⟨de,H',I,q⟩:=h;exact⟨de,H',I.md,q⟩
 |cont=>obtain⟨de,H',I,q⟩:=h;exact⟨de,H',I.md,q⟩
 |ret u=>obtain⟨v,de,H',I,r,q⟩:=h;exact⟨v,de,H',I.md,r,q⟩
def su.Bk {st:List Stmt}(h:su X.Bk st t):su X st t:=λac s U H D I hw=>
 aN (h ac s U H D (I.uw _) hw) (λ_ _ q=>q.md) λ_ _ z=>False.elim z
section
variable {st:Stmt}{rest:List Stmt}{t u:TS}{e:Expr}{te:TE}{pos:Pos}
def Vr:TS:=λD U H=>D.nx U H
def zg (t u:TS):TS:=λD U H=>t {D with nx:=u D} U H
def cj:su X [] Vr:=λ_ _ U H _ I h=>pF ⟨U,H,I,h⟩
def az (h1:PS X st t) (h2:su X rest u):su X (st::rest) (zg t u):=by
 intro ac s U H D I h;refine wpAny_execs_cons (dq (h1 ac s U H {D with nx:=u D} I h) λf s1 q=>?_);cases f with
 |next=>obtain⟨de,H',I',q⟩:=q;exact h2 ac s1 de H' D I' q
 |ret v=>exact q
 |brk=>exact q
 |cont=>exact q
def aO (h1:PS X st t):su X [st] t:=by
 intro ac s U H D I h;refine wpAny_execs_cons (dq (h1 ac s U H D I h) λf s1 q=>?_);cases f with
 |next=>exact pF q
 |ret v=>exact q
 |brk=>exact q
 |cont=>exact q
def Inv.quiet {ac:Aaa}{U:St}{H:Hp}{s:ar}(I:Inv X ac U H s):interactive X.env=false:=by simp[interactive,I.ok.kind]
def Vs (te:TE):TS:=λD U H=>te U H λ_ H1=>D.nx U H1
def eR (he:PE X e te) (hs:swapsWith e none pos.line X.env=pure false:=by rfl):PS X (.Expr e pos) (Vs te):=by intro ac s U H D I h;exact wpAny_Expr_any (dq (he ac s U H _ I h) λv s1 ⟨x,H1,I1,r1,q1⟩=>⟨U,H1,I1,q1⟩) I.quiet hs
def Qi (te:TE):TS:=λD U H=>te U H D.rt
def bK (he:PE X e te):PS X (.Return (some e) pos) (Qi te):=by intro ac s U H D I h;exact wpAny_Return_some (dq (he ac s U H _ I h) λv s1 ⟨x,H1,I1,r1,q1⟩=>⟨x,U,H1,I1,r1,q1⟩)
def aai (c:TT) (t u:TS):TS:=λD U H=>c U H λb H1=>if b=true then t D U H1 else u D U H1
def zh (hc:PT X c tc) (ha:su X a t) (hb:su X b u):PS X (.If c a b pos) (aai tc t u):=by
 intro ac s U H D I h;refine wpAny_If (dq (hc ac s U H _ I h) λd s1 ⟨H1,I1,q1⟩=>?_);cases d with
 |true=>exact ha ac s1 U H1 D I1 q1
 |false=>exact hb ac s1 U H1 D I1 q1
def Qj:TS:=λ_ _ _=>False
def dJ:su X fV Qj:=λ_ _ _ _ _ _ h=>h.elim
end
abbrev TG:=V->St->Hp->(St->Hp->Prop)->Prop
abbrev GD:=Aac->St->Hp->(St->Hp->Prop)->Prop
def PG (X:Cx) (target:Expr) (t:TG):Prop:=∀(ac:Aaa) (s:ar) (U:St) (H:Hp) (v:V) (u:ai) (Q:St->Hp->Prop),Inv X ac U H s->RelV v u->t v U H Q-> wpAny (model X.prog X.w) X.A (assign target X.env u) (λ_ s'=>∃de H',Inv X ac de H' s'/\Q de H') X.xe s
def GF (X:Cx) (ts:List Expr) (t:GD):Prop:=∀(ac:Aaa) (s:ar) (U:St) (H:Hp) (vs:Aac) (us:Aad) (Q:St->Hp->Prop),Inv X ac U H s->cx vs us->t vs U H Q-> wpAny (model X.prog X.w) X.A (assignInOrder ((assignEach ts X.env).map (·.2)) us) (λ_ s'=>∃de H',Inv X ac de H' s'/\Q de H') X.xe s
abbrev Qk:=V->V->V->Hp->(Hp->Prop)->Prop
def Vt (X:Cx) (t:Qk):Prop:=∀(ac:Aaa) (s:ar) (U:St) (H:Hp) (o i v:V) (ov iv u:ai) (Q:Hp->Prop),Inv X ac U H s->RelV o ov->RelV i iv->RelV v u->t o i v H Q-> wpAny (model X.prog X.w) X.A (setItem ov iv u) (λ_ s'=>∃H',Inv X ac U H' s'/\Q H') X.xe s
abbrev TIp:=V->V->Hp->VK->Prop
def PIp (X:Cx) (op:Operator) (t:TIp):Prop:=∀(ac:Aaa) (s:ar) (U:St) (H:Hp) (x y:V) (v u:ai) (Q:VK),Inv X ac U H s->RelV x v->RelV y u->t x y H Q-> wpAny (model X.prog X.w) X.A (inplaceOp op v u) (EP X ac U Q) X.xe s
section
variable {pos:Pos}
def d_ (i:Nat):TG:=λv U H Q=>Q (U.set i (some v)) H
def aM (hN:X.N.Nodup) (hi:X.N[i]?=some x:=by rfl) (hx:Loc X.env.scope x:=by exact Or.inl rfl) (hf:X.fn x=true\/X.env.scope.names.lookup x=some .local:=by first|exact .inl rfl|exact .inr rfl|assumption):PG X (.Name x pos) (d_ i):=by intro ac s U H v u Q I r h;exact tQ (m9 I hN hi hx r (λs' I'=>⟨_,H,I',h⟩) hf)
def aaj:GD:=λvs U H Q=>vs=[]/\Q U H
def Vu (t:TG) (u:GD):GD:=λvs U H Q=>∃v r,vs=v::r/\t v U H λde H'=>u r de H' Q
def CQ:GF X [] aaj:=by intro ac s U H vs us Q I r h;obtain⟨e,h⟩:=h;subst e;cases r;exact assignInOrder_nil ⟨U,H,I,h⟩
def qu (h1:PG X e t) (h2:GF X es u) (hs:(assignEach (e::es) X.env).map (·.2)=assign e X.env::(assignEach es X.env).map (·.2):=by rfl):GF X (e::es) (Vu t u):=by
 intro ac s U H vs us Q I r h;obtain⟨v,vr,e1,h⟩:=h;subst e1;cases r with
 |cons r rr=>rw[hs];refine assignInOrder_cons (dq (h1 ac s U H _ _ _ I r h) λ_ s1 ⟨GG,H1,I1,q1⟩=>?_);exact h2 ac s1 GG H1 _ _ Q I1 rr q1
def aak (K:Φ) (n:Nat) (t:GD):TG:=λv U H Q=>∃a xs,v=.ref a/\iY K H a xs/\xs.length=n/\t xs U H Q
def GH (hc:X.calm=true) (h:GF X es t) (hn:(assignEach es X.env).length=n:=by rfl) (GI:(assignEach es X.env).findIdx? (·.1)=none:=by rfl):PG X (.Tuple es k pos) (aak X.K n t):=by intro ac s U H v u Q I r hw;obtain⟨a,xs,e1,hq,hl,hw⟩:=hw;subst e1;cases r;obtain⟨bV,rv,ht,hz⟩:=I.tuple hq;refine assign_Tuple_tuple (I.ok.hd hc) ht (by simp[hn,<-hl,rv.length]) GI λh' hx=>?_;have I1:Inv X ac U H {s with heap:=h'}:=I.kept (t':=s.toks) λb o e=>hx b o (aW (aG e)) e;exact h ac _ U H xs _ Q I1 (by simpa using rv) hw
def aal (to ti:TE) (t:Qk):TG:=λv U H Q=>to U H λo H1=>ti U H1 λi H2=>t o i v H2 λH3=>Q U H3
def GJ {o i:Expr}{to ti:TE}{t:Qk}(ho:PE X o to) (hi:PE X i ti) (hs:Vt X t) (ha:∀v,assign (.Subscript o i pos) X.env v=(do
   let ov<-holding [v] (eval o X.env);let iv<-holding [v,ov] (eval i X.env)
   standAt pos
   holding [v,ov,iv] (setItem ov iv v)
   release [v,ov,iv] []):=by intro _;rfl):PG X (.Subscript o i pos) (aal to ti t):=by
 intro ac s U H v u Q I r h;rw[ha];refine aa (cf (dq (ho ac s U H _ I h) λov s1 ⟨x,H1,I1,r1,q1⟩=>?_));refine aa (cf (dq (hi ac s1 U H1 _ I1 q1) λiv s2 ⟨y,H2,I2,r2,q2⟩=>?_));refine aa (dP (aa (cf (dq (hs ac s2 U H2 x y v ov iv u _ I2 r1 r2 r q2) λ_ s3 ⟨H3,I3,q3⟩=>?_))));exact wpAny_release ⟨U,H3,I3,q3⟩
def Bl (te:TE) (g:TG):TS:=λD U H=>te U H λx H1=>g x U H1 D.nx
def iP (he:PE X e te) (hg:PG X tg g) (hs:swapsWithSole [tg] e pos.line X.env=pure false:=by rfl) (hw:swappedStores [tg] e X.env=pure none:=by rfl) (h1:(assignEach [tg] X.env).map (·.2)=[assign tg X.env]:=by rfl):PS X (.Assign [tg] e pos) (Bl te g):=by intro ac s U H D I h;refine wpAny_Assign_stores (dq (he ac s U H _ I h) λv s1 ⟨x,H1,I1,r1,q1⟩=>?_) hs hw;rw[h1];exact dq (hg ac s1 U H1 x v _ I1 r1 q1) λ_ s2 q=>q
def kR {i:Nat}{x:Str}{e:Expr}{te:TE}{pos':Pos}(hN:X.N.Nodup) (hi:X.N[i]?=some x) (hx:Loc X.env.scope x) (he:PE X e te) (hs:swapsWith e (some (.Name x pos')) pos.line X.env=pure false:=by rfl) (hf:X.fn x=true\/X.env.scope.names.lookup x=some .local:=by first|exact .inl rfl|exact .inr rfl|assumption):
  PS X (.Assign [.Name x pos'] e pos) (Bl te (d_ i)):=by
 intro ac s U H D I h;refine wpAny_Assign_Name (dq (he ac s U H _ I h) λv s1 ⟨y,H1,I1,r1,q1⟩=>?_) hs;exact m9 I1 hN hi hx r1 (λs2 I2=>⟨_,H1,I2,q1⟩) hf
def aam (i j:Nat) (ta:TA):TS:=λD U H=>ta U H λvs H1=>∃v w,vs=[v,w]/\D.nx ((U.set i (some v)).set j (some w)) H1
def iQ {i:Nat}{x:Str}{e:Expr}{te:TE}{pos':Pos}(hN:X.N.Nodup) (he:PE X e te) (hi:X.N[i]?=some x:=by rfl) (hx:Loc X.env.scope x:=by exact Or.inl rfl) (hs:swapsWith e (some (.Name x pos')) pos.line X.env=pure false:=by rfl) (hf:X.fn x=true\/X.env.scope.names.lookup x=some .local:=by first|exact .inl rfl|exact .inr rfl|assumption):PS X (.Assign [.Name x pos'] e pos) (Bl te (d_ i)):=kR hN hi hx he hs hf
def GK {kt k2 pt2}(hc:X.calm=true) (hN:X.N.Nodup) (hi:X.N[i]?=some x) (hj:X.N[j]?=some y) (oE:i≠j) (hx:X.env.scope.names.lookup x=some .local) (hy:X.env.scope.names.lookup y=some .local) (ha:PA X [a,b] ta) (hw:swappedStores [.Tuple [.Name x px,.Name y py] kt pt] (.Tuple [a,b] k2 pt2) X.env=pure (some [x,y])) (hs:swapsWithSole [.Tuple [.Name x px,.Name y py] kt pt] (.Tuple [a,b] k2 pt2) pos.line X.env=pure false:=by rfl):
  PS X (.Assign [.Tuple [.Name x px,.Name y py] kt pt] (.Tuple [a,b] k2 pt2) pos) (aam i j ta):=by
 intro ac s U H D I h;rw[exec_Assign_arm];refine aa (dP ?_);rw[hs];refine aa (au ?_);rw[aI δ];refine aa (Tuple_ (dq (ha _ ac s U H _ I h) λus s1 ⟨vs,H1,I1,r1,q1⟩=>?_));obtain⟨v,w,e1,q1⟩:=q1;subst e1;obtain⟨u1,u2,rfl,rv,Bm⟩:∃u1 u2,us=[u1,u2]/\RelV v u1/\RelV w u2:=by
  cases r1 with
  |cons p q=>
   cases q with
   |cons p' q'=>cases q';exact⟨_,_,rfl,p,p'⟩
 refine bS ?_ (Bh);have I2:Inv X ac U H1 {s1 with heap:=s1.heap.push {cls:=.type "tuple",data:=.seq [u1,u2].toArray}}:=I1.kept (t':=s1.toks) λb o e=>af _ e;rw[hw];refine aa (au ?_);show wpAny (model X.prog X.w) X.A (do rule "assign.swapped-stores";let items<-unpackItems (.ref s1.heap.objs.size) 2 none;assignInOrder [λv=>bindName X.env y v,λv=>bindName X.env x v] items.reverse;pure Flow.next) _ _ _;refine aa (m5 (aa (unpackItems_tuple (items:=#[u1,u2]) (I.ok.hd hc) (IsTup.new s1.heap _) λh' hx'=>?_)));have I3:=I2.kept (h':=h') (t':=s1.toks) λb o e=>hx' b o (aW (aG e)) e;show wpAny _ _ (assignInOrder [λv=>bindName X.env y v,λv=>bindName X.env x v] [u2,u1]>>=λ_=>pure Flow.next) _ _ _;refine aa (assignInOrder_cons (wpAny_bindName (m9 I3 hN hj (.inl hy) Bm (λs2 I4=>?_) (.inr hy))));refine assignInOrder_cons (wpAny_bindName (m9 I4 hN hi (.inl hx) rv (λs3 I5=>assignInOrder_nil (au ?_)) (.inr hx)));rw[List.set_comm _ _ (eJ oE)] at I5;exact⟨_,H1,I5,q1⟩
def aan (i:Nat) (te:TE) (ti:TIp):TS:=λD U H=>∃x,U[i]?=some (some x)/\te U H λy H1=>ti x y H1 λz H2=>D.nx (U.set i (some z)) H2
def Ql (hN:X.N.Nodup) (hi:X.N[i]?=some x) (hx:Loc X.env.scope x) (he:PE X e te) (ho:PIp X op ti) (hf:X.fn x=true\/X.env.scope.names.lookup x=some .local:=by first|exact .inl rfl|exact .inr rfl|assumption):
  PS X (.AugAssign (.Name x pos') op e pos) (aan i te ti):=by
 intro ac s U H D I h;obtain⟨v,e1,h⟩:=h;obtain⟨m,hn,hl⟩:=I.loc;have vis:Uw X.env.scope x:=by rcases hx with k|k;exact .inl k;exact .inr (.inl k)
 obtain⟨u,r,l⟩:=hl i x v hi e1 vis;refine wpAny_AugAssign_Name ?_;have go:wpAny (model X.prog X.w) X.A (eval e X.env) (λw jB=>wpAny (model X.prog X.w) X.A (inplaceOp op u w) (λr lh=>wpAny (model X.prog X.w) X.A (storeName X.env x r) (λ_=>SP X ac D .next) X.xe lh) X.xe jB) X.xe s:=by refine dq (he ac s U H _ I h) λw s1 ⟨y,H1,I1,r1,q1⟩=>?_;refine dq (ho ac s1 U H1 v y u w _ I1 r r1 q1) λz s2 ⟨zv,H2,I2,r2,q2⟩=>?_;exact m9 I2 hN hi hx r2 (λs3 I3=>⟨_,H2,I3,q2⟩) hf
 rcases l with⟨hk,hm⟩|⟨hk,c,hc,CP⟩
 .exact wpAny_loadName_local I.ok.kind hk hn hm go
 .rcases hk with hk|hk
  .exact wpAny_loadName_cell I.ok.kind hk hc CP go
  .rcases hx with k|k
   .have:X.env.scope.names.lookup x=some .free:=hk;rw[k] at this;cases this
   .have:X.env.scope.names.lookup x=some .free:=hk;rw[k] at this;cases this
def ipI (f:Int->Int->Int):TIp:=λx y H Q=>∃i j,x=.int i/\y=.int j/\Q (.int (f i j)) H
def Qm:PIp X .Add (ipI λi j=>i+j):=by intro ac s U H x y v u Q I r1 r2 h;obtain⟨i,j,e1,e2,q⟩:=h;subst e1;subst e2;obtain⟨t,rfl⟩:=r1;obtain⟨t',rfl⟩:=r2;exact iadd_int ⟨.int _,H,I.tok _,⟨_,rfl⟩,q⟩
end
section
variable {pos:Pos}
def GL (c:TT) (tb:TS):TS:=λD U H=>∃W:Nat->St->Hp->Prop,(∃m,W m U H)/\∀m U H,W m U H-> c U H λb H1=>if b=true then∃N:St->Hp->Prop,(∀de H',N de H'->∃m',m'<m/\W m' de H')/\tb {D with nx:=N,ct:=N,bk:=D.nx} U H1 else D.nx U H1
def GN (hp:PassesOwn (model X.prog X.w) X.A X.env X.xe) (hc:PT X c tc) (hb:su X body tb):PS X (.While c body [] pos) (GL tc tb):=by
 intro ac s U H D I h;obtain⟨W,⟨m0,w0⟩,turn⟩:=h;refine wpAny_While (codeAny_whileLoop (λn s'=>∃de H',Inv X ac de H' s'/\W n de H') ?_ m0 ⟨U,H,I,w0⟩);rintro n s1 ⟨GG,H1,I1,w1⟩;refine fX hp (dq (hc ac s1 GG H1 _ I1 (turn n GG H1 w1)) λb s2 ⟨H2,I2,q2⟩=>?_);cases b with
 |true=>
  obtain⟨N,hN,q2⟩:=q2;rw[aJ rfl];refine fX hp (dq (hb ac s2 GG H2 _ I2 q2) λf s3 q3=>?_);cases f with
  |next=>obtain⟨Bn,H3,I3,n3⟩:=q3;obtain⟨m',hm,w3⟩:=hN Bn H3 n3;exact⟨m',hm,Bn,H3,I3,w3⟩
  |cont=>obtain⟨Bn,H3,I3,n3⟩:=q3;obtain⟨m',hm,w3⟩:=hN Bn H3 n3;exact⟨m',hm,Bn,H3,I3,w3⟩
  |brk=>exact q3
  |ret v=>exact q3
 |false=>rw[aI bD];exact pF ⟨GG,H2,I2,q2⟩
end
structure It where
 go:Nat->Hp->Prop
 vR:Nat->Hp->V->Hp->Prop
 stop:Nat->Hp->Prop
def gn (X:Cx) (ac:Aaa) (H:Hp) (b:aq):Prop:=H b=none/\b≠X.env.locals/\b∉X.fs/\(b∈X.ex\/X.iO.heap.objs.size<=b)/\(∀x c,X.env.cells.lookup x=some c->c≠b)/\∀p∈X.pn++ac,p.1≠b
def Inv.pL {U}{H}{s}(I:Inv X ac U H s) (hb:s.heap.objs.size<=b) (hn:H' b=none):gn X ac H' b:=by
 refine⟨hn,fc (aT I.lt hb),I.Gy hb,.inr (aB I.sz hb),λx c e z=>?_,λp hp z=>?_⟩
 .obtain⟨v,q⟩:=I.cell x c e;exact absurd (aT q.lt (by rw[z];exact hb)) (cD _)
 .exact absurd (aT (aG (I.pin p hp).1) (by rw[z];exact hb)) (cD _)
structure Turn (P:aQ) (w:bg) (K:Φ) (tg:Expr) (J:It) (fp:List aq) (it:aq) (tn:Nat->Heap->Prop):Prop where
 mem:it∈fp
 obj:∀i h,tn i h->∀b∈fp,∃o,h.get? b=some o/\∀v,o.data≠.cell v
 keep:∀i h h',tn i h->(∀b∈fp,∀o,h.get? b=some o->h'.get? b=some o)->tn i h'
 item:∀(X:Cx),X.prog=P->X.w=w->X.K=K->X.calm=true->∀(i:Nat) (ac:Aaa) (s:ar) (U:St) (H:Hp) (E:Aaf),Inv X ac U H s->(∀b∈fp,gn X ac H b)->tn i s.heap->J.go i H-> wpAny (model P w) X.A (pyNext (.ref it)) (λr s1=>∃u,r=some u/\ wpAny (model P w) X.A (letOwnedTupleGo tg (.ref it) u) (λ_ s2=>∃x H',Inv X ac U H' s2/\RelV x u/\J.vR i H x H'/\tn (i+1) s2.heap/\∀b∈fp,H' b=none) E s1) E s
 done:∀(X:Cx),X.prog=P->X.w=w->X.K=K->X.calm=true->∀(i:Nat) (ac:Aaa) (s:ar) (U:St) (H:Hp) (E:Aaf),Inv X ac U H s->(∀b∈fp,gn X ac H b)->tn i s.heap->J.stop i H-> wpAny (model P w) X.A (pyNext (.ref it)) (λr s1=>r=none/\Inv X ac U H s1) E s
 self:∀(A:bL) (i:Nat) (s:ar) (Q:Aaf) (E:Aaf),tn i s.heap->Q (.ref it) s->wpAny (model P w) A (pyIter (.ref it)) Q E s
abbrev TI:=St->Hp->(It->Hp->Prop)->Prop
def PIE (X:Cx) (ac:Aaa) (U:St) (tg:Expr) (R:It->Hp->Prop) (Qn:ai) (s2:ar):Prop:=∃(it:aq) (fp:List aq) (tn:Nat->Heap->Prop) (J:It) (H':Hp),Qn=.ref it/\Inv X ac U H' s2/\Turn X.prog X.w X.K tg J fp it tn/\tn 0 s2.heap/\(∀b∈fp,gn X ac H' b)/\R J H'
def PI (X:Cx) (tg iter:Expr) (wi:TI):Prop:=∀(ac:Aaa) (s:ar) (U:St) (H:Hp) (R:It->Hp->Prop),Inv X ac U H s->wi U H R-> wpAny (model X.prog X.w) X.A (eval iter X.env) (λv s1=>wpAny (model X.prog X.w) X.A (pyIter v) (PIE X ac U tg R) X.xe s1) X.xe s
def CS {M:Model}{A:bL}{E:Aaf}{s:ar}{tg:Expr}{it:aq}{u:ai}{o:Obj}{n:String}{vs:Array ai}{Q:Unit->ar->Prop}(ho:s.heap.get? it=some o) (hc:o.cls=.type n) (hd:o.data=.fields vs) (hn:["enumerate","zip","dict_itemiterator","dict_reverseitemiterator","odict_iterator","itertools.zip_longest","itertools.pairwise"].contains n=false) (hQ:Q () s):wpAny M A (letOwnedTupleGo tg (.ref it) u) Q E s:=by
 unfold letOwnedTupleGo;cases tg<;>first
  |exact au hQ
  |(cases u<;>first
   |exact au hQ
   |(refine aa (wpAny_load ho ?_)
     rw[hc,hd];show wpAny M A (if(["enumerate","zip","dict_itemiterator","dict_reverseitemiterator","odict_iterator","itertools.zip_longest","itertools.pairwise"].contains n&&vs[0]?==some (rawInt _))=true then _ else _) Q E s;rw[aI (by intro h;rw[hn,gi] at h;cases h)];exact au hQ))
def Gb (K:Φ) (a:aq):It:=⟨λi H=>∃xs x,gj K H a xs/\xs[i]?=some x,λi H x H'=>H'=H/\∀xs,gj K H a xs->xs[i]?=some x,λi H=>∃xs,gj K H a xs/\xs.length<=i⟩
def Ot (K:Φ) (a:aq):It:=⟨λi H=>∃xs x,iY K H a xs/\xs[i]?=some x,λi H x H'=>H'=H/\∀xs,iY K H a xs->xs[i]?=some x,λi H=>∃xs,iY K H a xs/\xs.length<=i⟩
def Ou (lo:Int) (n:Nat):It:=⟨λi _=>i<n,λi H x H'=>H'=H/\x=.int (lo+i),λi _=>n<=i⟩
def wu {P:aQ}{w:bg}{K:Φ}{tg:Expr}(a it:aq):Turn P w K tg (Gb K a) [it] it (λi h=>h.IsListIter it a i) where
 mem:=ς
 obj:=λi h st b hb=>by
  have e:b=it:=by simpa using hb
  subst e;obtain⟨o,e,c,d⟩:=st;exact⟨o,e,λv z=>by rw[d] at z;cases z⟩
 keep:=λi h h' st k=>st.at λo e=>k it ς o e
 item:=by intro X hP hw hK hc i ac s U H E I hf st hg;subst hP hw hK;obtain⟨xs,x,hq,hx⟩:=hg;obtain⟨bV,rv,p,hz⟩:=I.list hq;obtain⟨u,hu,ru⟩:=rv.get hx;obtain⟨f0,f1,f2,f3,f4,f5⟩:=hf it ς;refine wpAny_pyNext_list_item st p.isList (x:=u) (by simpa using hu) λh' oG sb=>?_;have I1:Inv X ac U H {s with heap:=h'}:=I.turned (t':=s.toks) (λb o hb e=>(sb.2 b hb).trans e) f0 f1 f3 f4 f5;obtain⟨o,e,c,d⟩:=id oG;exact⟨u,rfl,CS (s:={s with heap:=h'}) e c d δ ⟨x,H,I1,ru,⟨rfl,λys hy=>by rw[I.zf hy hq];exact hx⟩,oG,λb hb=>(hf b hb).1⟩⟩
 done:=by intro X hP hw hK hc i ac s U H E I hf st hg;subst hP hw hK;obtain⟨xs,hq,hx⟩:=hg;obtain⟨bV,rv,p,hz⟩:=I.list hq;obtain⟨f0,f1,f2,f3,f4,f5⟩:=hf it ς;have hl:=rv.length;exact wpAny_pyNext_list_end (I.ok.hd hc) st p.isList (by simp;omega) λh' eb=>⟨rfl,I.turned (t':=s.toks) (λb o hb e=>eb b o hb e) f0 f1 f3 f4 f5⟩
 self:=λ_ _ _ _ _ st h=>wpAny_pyIter_listiter st h
def Bo {P:aQ}{w:bg}{K:Φ}{tg:Expr}(a it:aq):Turn P w K tg (Ot K a) [it] it (λi h=>h.IsTupleIter it a i) where
 mem:=ς
 obj:=λi h st b hb=>by
  have e:b=it:=by simpa using hb
  subst e;obtain⟨o,e,c,d⟩:=st;exact⟨o,e,λv z=>by rw[d] at z;cases z⟩
 keep:=λi h h' st k=>st.at λo e=>k it ς o e
 item:=by intro X hP hw hK hc i ac s U H E I hf st hg;subst hP hw hK;obtain⟨xs,x,hq,hx⟩:=hg;obtain⟨bV,rv,p,hz⟩:=I.tuple hq;obtain⟨u,hu,ru⟩:=rv.get hx;obtain⟨f0,f1,f2,f3,f4,f5⟩:=hf it ς;refine wpAny_pyNext_tuple_item st (show s.heap.IsTuple a bV.toArray from p) (x:=u) (by simpa using hu) λh' oG sb=>?_;have I1:Inv X ac U H {s with heap:=h'}:=I.turned (t':=s.toks) (λb o hb e=>(sb.2 b hb).trans e) f0 f1 f3 f4 f5;obtain⟨o,e,c,d⟩:=id oG;exact⟨u,rfl,CS (s:={s with heap:=h'}) e c d δ ⟨x,H,I1,ru,⟨rfl,λys hy=>by rw[I.nZ hy hq];exact hx⟩,oG,λb hb=>(hf b hb).1⟩⟩
 done:=by intro X hP hw hK hc i ac s U H E I hf st hg;subst hP hw hK;obtain⟨xs,hq,hx⟩:=hg;obtain⟨bV,rv,p,hz⟩:=I.tuple hq;obtain⟨f0,f1,f2,f3,f4,f5⟩:=hf it ς;have hl:=rv.length;exact wpAny_pyNext_tuple_end (I.ok.hd hc) st (show s.heap.IsTuple a bV.toArray from p) (by simp;omega) λh' eb=>⟨rfl,I.turned (t':=s.toks) (λb o hb e=>eb b o hb e) f0 f1 f3 f4 f5⟩
 self:=λ_ _ _ _ _ st h=>wpAny_pyIter_tupleiter st h
def Bp {P:aQ}{w:bg}{K:Φ}{tg:Expr}(it:aq) (lo:Int) (n:Nat):Turn P w K tg (Ou lo n) [it] it (λi h=>IsRangeIter h it (lo+(i:Nat)*1) ((n:Int)-(i:Nat)) 1) where
 mem:=ς
 obj:=λi h st b hb=>by
  have e:b=it:=by simpa using hb
  subst e;exact⟨_,st,λv z=>by have z':Data.fields _=Data.cell v:=z;cases z'⟩
 keep:=λi h h' st k=>k it ς _ st
 item:=by intro X hP hw hK hc i ac s U H E I hf st hg;subst hP hw hK;obtain⟨f0,f1,f2,f3,f4,f5⟩:=hf it ς;have W:=Walks.range (prog:=X.prog) (w:=X.w) (I.ok.hd hc) it lo 1 n;refine W.item i s _ _ hg st λv h' tk hv oG kk=>?_;obtain⟨t,rfl⟩:=hv;have I1:Inv X ac U H {s with heap:=h',toks:=tk}:=I.turned (λb o hb e=>kk b o (by simpa using hb) e) f0 f1 f3 f4 f5;refine⟨_,rfl,CS (s:={s with heap:=h',toks:=tk}) (n:="range_iterator") oG rfl rfl δ ⟨.int (lo+i),H,I1,⟨t,?_⟩,⟨rfl,rfl⟩,oG,λb hb=>(hf b hb).1⟩⟩;rw[Int.mul_one]
 done:=by intro X hP hw hK hc i ac s U H E I hf st hg;subst hP hw hK;obtain⟨f0,f1,f2,f3,f4,f5⟩:=hf it ς;exact wpAny_pyNext_range_end (I.ok.hd hc) st (by have:n<=i:=hg;omega) λh' eb=>⟨rfl,I.turned (t':=s.toks) (λb o hb e=>eb b o hb e) f0 f1 f3 f4 f5⟩
 self:=λ_ _ _ _ _ st h=>wpAny_pyIter_rangeiter st h
section
variable {tg:Expr}
def Ov (K:Φ) (tl:TE):TI:=λU H R=>tl U H λx H1=>∃a,x=.ref a/\(∃xs,gj K H1 a xs)/\R (Gb K a) H1
def KR (hl:PE X l tl):PI X tg l (Ov X.K tl):=by
 intro ac s U H R I h;refine dq (hl ac s U H _ I h) λv s1 ⟨x,H1,I1,r1,q1⟩=>?_;obtain⟨a,e,⟨xs,hq⟩,q⟩:=q1;subst e;cases r1;obtain⟨bV,rv,p,hz⟩:=I1.list hq;refine dQ p.isList ?_;refine⟨s1.heap.objs.size,[s1.heap.objs.size],_,_,H1,rfl,I1.kept (t':=s1.toks) λb o e=>af _ e,wu a _,⟨_,av _ rfl,rfl,rfl⟩,λb hb=>?_,q⟩;have e:b=s1.heap.objs.size:=by simpa using hb
 subst e;exact I1.pL (ao _) (I1.dh.fresh (ao _))
def GO {ac:Aaa}{U:St}{H:Hp}{s:ar}{R:It->Hp->Prop}{E:Aaf}{lo hi:Int}{t u v:Tok}{tk:Nat}(I:Inv X ac U H s) (h1:-(2^62)<=lo) (h2:lo<2^62) (h3:-(2^62)<=hi) (h4:hi<2^62) (q:R (Ou lo (hi-lo).toNat) H):wpAny (model X.prog X.w) X.A (pyIter (.ref s.heap.objs.size)) (PIE X ac U tg R) E {s with heap:=s.heap.push {cls:=.type "range",data:=.fields #[.int lo t,.int hi u,.int 1 v]},toks:=tk}:=by
 refine wpAny_pyIter_range (IsRange.new ..) (small_one h1 h2 h3 h4) ?_;have I1:Inv X ac U H {s with heap:=s.heap.push {cls:=.type "range",data:=.fields #[.int lo t,.int hi u,.int 1 v]},toks:=tk}:=I.kept λb o e=>af _ e;refine⟨(s.heap.push {cls:=.type "range",data:=.fields #[.int lo t,.int hi u,.int 1 v]}).objs.size,[(s.heap.push {cls:=.type "range",data:=.fields #[.int lo t,.int hi u,.int 1 v]}).objs.size],_,_,H,rfl,I1.kept (t':=tk) λb o e=>af _ e,Bp _ lo (hi-lo).toNat,?_,λb hb=>?_,q⟩
 .have e1:lo+((0:Nat):Int)*1=lo:=ς;have e2:(((hi-lo).toNat:Nat):Int)-((0:Nat):Int)=Builtin.Range.rangeSize lo hi 1:=by rw[rangeSize_one];split<;>omega
  show IsRangeIter _ _ (lo+((0:Nat):Int)*1) ((((hi-lo).toNat:Nat):Int)-((0:Nat):Int)) 1;rw[e1,e2];exact av _ rfl
 .have e:b=(s.heap.push {cls:=.type "range",data:=.fields #[.int lo t,.int hi u,.int 1 v]}).objs.size:=by simpa using hb
  subst e;exact I1.pL (ao _) (I1.dh.fresh (ao _))
def aao (wi:TI) (g:TG) (tb:TS):TS:=λD U H=>wi U H λJ H1=>∃W:Nat->Nat->St->Hp->Prop,(∃m,W 0 m U H1)/\∀i m U H,W i m U H-> (J.stop i H/\D.nx U H)\/(J.go i H/\∃N:St->Hp->Prop,(∀de H',N de H'->∃m',m'<m/\W (i+1) m' de H')/\∀x H',J.vR i H x H'->g x U H' λcz H2=>tb {D with nx:=N,ct:=N,bk:=D.nx} cz H2)
def ke (fp:List aq) (h:Heap):Aaa:=fp.filterMap λb=>(h.get? b).map λo=>(b,o)
def eK (hb:b∈fp) (e:h.get? b=some o):(b,o)∈ke fp h:=di.mpr ⟨b,hb,by rw[e];rfl⟩
def EA (hp:p∈ke fp h):p.1∈fp/\h.get? p.1=some p.2:=by
 obtain⟨b,hb,e⟩:=di.mp hp;cases q:h.get? b with
 |none=>rw[q] at e;cases e
 |some o=>rw[q] at e;have e':(b,o)=p:=bf e;subst e';exact⟨hb,q⟩
def Inv.pinned {U}{H}{s}(I:Inv X ac U H s) (hf:∀b∈fp,gn X ac H b) (ho:∀b∈fp,∃o,s.heap.get? b=some o/\∀v,o.data≠.cell v):Inv X (ac++ke fp s.heap) U H s:=I.nW λp hp=>(aX.mp hp).elim (λz=>I.pin p (aD _ z)) λz=>by obtain⟨hb,e⟩:=EA z;obtain⟨f0,f1,f2,_⟩:=hf p.1 hb;obtain⟨o,e',d⟩:=ho p.1 hb;rw[e] at e';cases e';exact⟨e,f0,f1,f2,d⟩
def Inv.gf {U}{H}{s}(I:Inv X (ac++pl) U H s):Inv X ac U H s:=I.nW λp hp=>I.pin p (aD _ (bh _ hp))
def Qo (hp:PassesOwn (model X.prog X.w) X.A X.env X.xe) (hc:X.calm=true) (hi:PI X tg iter wi) (hg:PG X tg g) (hb:su X body tb) (hs:∀x,foldedSetIterable iter X.env x=pure x:=by intro _;rfl):PS X (.For tg iter body [] pos) (aao wi g tb):=by
 intro ac s U H D I h;refine wpAny_For (dq (hi ac s U H _ I h) λv s1 h1=>dq h1 λQn s2 h2=>?_) hs;obtain⟨it,fp,tn,J,H2,e,I2,T,qb,f2,W,⟨m0,w0⟩,turn⟩:=h2;subst e
 --acB stays true of the Qp objects through the loop
 have kf:∀{H':Hp},(∀b∈fp,H' b=none)->∀b∈fp,gn X ac H' b:=λhn b hb=>⟨hn b hb,(f2 b hb).2⟩;refine codeAny_forLoop_any (λn s'=>∃i de H',Inv X ac de H' s'/\tn i s'.heap/\(∀b∈fp,H' b=none)/\W i n de H') ?_ m0 ⟨0,U,H2,I2,qb,λb hb=>(f2 b hb).1,w0⟩;rintro n s3 ⟨i,Bn,H3,I3,st3,fr3,w3⟩;rcases turn i n Bn H3 w3 with⟨stop,qn⟩|⟨go,N,hN,step⟩
 .refine fX hp (dq (T.done X rfl rfl rfl hc i ac s3 Bn H3 X.xe I3 (kf fr3) st3 stop) λr s4 ⟨hr,I4⟩=>?_);subst hr;exact pF ⟨Bn,H3,I4,qn⟩
 .refine fX hp (dq (T.item X rfl rfl rfl hc i ac s3 Bn H3 X.xe I3 (kf fr3) st3 go) λr s4 ⟨u,hr,h4⟩=>?_);subst hr;refine fX hp (dq h4 λ_ s5 ⟨x,H5,I5,r5,y5,yV,AZ⟩=>?_);have I5':=I5.pinned (kf AZ) (T.obj _ _ yV);refine fX hp (dq (hg _ s5 Bn H5 x u _ I5' r5 (step x H5 y5)) λ_ s6 ⟨σ6,H6,I6,q6⟩=>?_);refine fX hp (dq (hb _ s6 σ6 H6 _ I6 q6) λf s7 q7=>?_);have again:∀{yW:St} {H7:Hp},Inv X (ac++ke fp s5.heap) yW H7 s7->N yW H7->∃m,m<n/\∃i de H',Inv X ac de H' s7/\tn i s7.heap/\(∀b∈fp,H' b=none)/\W i m de H':=λ{yW H7} I7 n7=>by obtain⟨m',hm,w7⟩:=hN yW H7 n7;refine⟨m',hm,i+1,yW,H7,I7.gf,T.keep _ _ _ yV λb hb o e=>(I7.pin (b,o) (aD _ (aD _ (eK hb e)))).1,λb hb=>?_,w7⟩;obtain⟨o,e,d⟩:=T.obj _ _ yV b hb;exact(I7.pin (b,o) (aD _ (aD _ (eK hb e)))).2.1
  cases f with
  |next=>obtain⟨yW,H7,I7,n7⟩:=q7;exact again I7 n7
  |cont=>obtain⟨yW,H7,I7,n7⟩:=q7;exact again I7 n7
  |brk=>obtain⟨yW,H7,I7,q7⟩:=q7;exact⟨yW,H7,I7.gf,q7⟩
  |ret v=>obtain⟨x7,yW,H7,I7,r7,q7⟩:=q7;exact⟨x7,yW,H7,I7.gf,r7,q7⟩
end
def GP {K:Φ}{a:aq}{xs:Aac}{g:TG}{tb:TS}{D:Ends}{U:St}{H:Hp}(Pv:Nat->St->Hp->Prop) (h0:Pv 0 U H) (hl:∀i U H,i<=xs.length->Pv i U H->gj K H a xs) (hs:∀i x U H,xs[i]?=some x->Pv i U H->g x U H λcz H2=>tb {D with nx:=Pv (i+1),ct:=Pv (i+1),bk:=D.nx} cz H2) (hd:∀U H,Pv xs.length U H->D.nx U H):
  ∃W:Nat->Nat->St->Hp->Prop,(∃m,W 0 m U H)/\∀i m U H,W i m U H-> ((Gb K a).stop i H/\D.nx U H)\/((Gb K a).go i H/\∃N:St->Hp->Prop,(∀de H',N de H'->∃m',m'<m/\W (i+1) m' de H')/\∀x H',(Gb K a).vR i H x H'->g x U H' λcz H2=>tb {D with nx:=N,ct:=N,bk:=D.nx} cz H2):=by
 refine⟨λi m U H=>m=xs.length-i/\i<=xs.length/\Pv i U H,⟨xs.length,ς,bH _,h0⟩,?_⟩;rintro i m U H ⟨rfl,hi,p⟩;have q:=hl i U H hi p;by_cases ie:i<xs.length
 .refine .inr ⟨⟨xs,xs[i],q,by simp[ie]⟩,Pv (i+1),λde H' p'=>⟨xs.length-(i+1),ω,rfl,ie,p'⟩,λx H' y=>?_⟩;obtain⟨e,y⟩:=y;subst e;exact hs i x U _ (y xs q) p
 .have e:i=xs.length:=ω;subst e;exact .inl ⟨⟨xs,q,ao _⟩,hd U H p⟩
def KS {U}{H}{K:Φ} {g:TG}{tb:TS}{D:Ends} (Pv:Nat->St->Hp->Prop) (h0:Pv 0 U H) (hl:∀i U H,i<=xs.length->Pv i U H->iY K H a xs) (hs:∀i x U H,xs[i]?=some x->Pv i U H->g x U H λcz H2=>tb {D with nx:=Pv (i+1),ct:=Pv (i+1),bk:=D.nx} cz H2) (hd:∀U H,Pv xs.length U H->D.nx U H):
  ∃W:Nat->Nat->St->Hp->Prop,(∃m,W 0 m U H)/\∀i m U H,W i m U H-> ((Ot K a).stop i H/\D.nx U H)\/((Ot K a).go i H/\∃N:St->Hp->Prop,(∀de H',N de H'->∃m',m'<m/\W (i+1) m' de H')/\∀x H',(Ot K a).vR i H x H'->g x U H' λcz H2=>tb {D with nx:=N,ct:=N,bk:=D.nx} cz H2):=by
 refine⟨λi m U H=>m=xs.length-i/\i<=xs.length/\Pv i U H,⟨xs.length,ς,bH _,h0⟩,?_⟩;rintro i m U H ⟨rfl,hi,p⟩;have q:=hl i U H hi p;by_cases ie:i<xs.length
 .refine .inr ⟨⟨xs,xs[i],q,by simp[ie]⟩,Pv (i+1),λde H' p'=>⟨xs.length-(i+1),ω,rfl,ie,p'⟩,λx H' y=>?_⟩;obtain⟨e,y⟩:=y;subst e;exact hs i x U _ (y xs q) p
 .have e:i=xs.length:=ω;subst e;exact .inl ⟨⟨xs,q,ao _⟩,hd U H p⟩
def EB {U}{H}{lo:Int}{g:TG}{tb:TS}{D:Ends} (Pv:Nat->St->Hp->Prop) (h0:Pv 0 U H) (hs:∀i U H,i<n->Pv i U H->g (.int (lo+i)) U H λcz H2=>tb {D with nx:=Pv (i+1),ct:=Pv (i+1),bk:=D.nx} cz H2) (hd:∀U H,Pv n U H->D.nx U H):
  ∃W:Nat->Nat->St->Hp->Prop,(∃m,W 0 m U H)/\∀i m U H,W i m U H-> ((Ou lo n).stop i H/\D.nx U H)\/((Ou lo n).go i H/\∃N:St->Hp->Prop,(∀de H',N de H'->∃m',m'<m/\W (i+1) m' de H')/\∀x H',(Ou lo n).vR i H x H'->g x U H' λcz H2=>tb {D with nx:=N,ct:=N,bk:=D.nx} cz H2):=by
 refine⟨λi m U H=>m=n-i/\i<=n/\Pv i U H,⟨n,ς,bH _,h0⟩,?_⟩;rintro i m U H ⟨rfl,hi,p⟩;by_cases ie:i<n
 .refine .inr ⟨ie,Pv (i+1),λde H' p'=>⟨n-(i+1),ω,rfl,ie,p'⟩,λx H' y=>?_⟩;obtain⟨e,y⟩:=y;subst e y;exact hs i U _ ie p
 .have e:i=n:=ω;subst e;exact .inl ⟨ao _,hd U H p⟩
def GQ {c:TT}{tb:TS}{D:Ends}{U:St}{H:Hp}(Pv:St->Hp->Prop) (μ:St->Hp->Nat) (h0:Pv U H) (hs:∀U H,Pv U H->c U H λb H1=>if b=true then tb {D with nx:=λde H'=>Pv de H'/\μ de H'<μ U H,ct:=λde H'=>Pv de H'/\μ de H'<μ U H,bk:=D.nx} U H1 else D.nx U H1) (mono:∀U H Q Q',(∀b H1,Q b H1->Q' b H1)->c U H Q->c U H Q'):GL c tb D U H:=by
 refine⟨λm U H=>m=μ U H/\Pv U H,⟨_,rfl,h0⟩,?_⟩;rintro m U H ⟨rfl,p⟩;refine mono U H _ _ (λb H1 q=>?_) (hs U H p);cases b with
 |true=>exact⟨_,λde H' ⟨p',l⟩=>⟨_,l,rfl,p'⟩,q⟩
 |false=>exact q
abbrev R2:=V->V->Hp->VK->Prop
def gT (X:Cx) (f:ai->ai->Sem ai) (r:R2):Prop:=∀(ac:Aaa) (s:ar) (U:St) (H:Hp) (x y:V) (v u:ai) (Q:VK),Inv X ac U H s->RelV x v->RelV y u->r x y H Q-> wpAny (model X.prog X.w) X.A (f v u) (EP X ac U Q) X.xe s
def ZG (X:Cx) (f:ai->Sem ai) (r:V->Hp->VK->Prop):Prop:=∀(ac:Aaa) (s:ar) (U:St) (H:Hp) (x:V) (v:ai) (Q:VK),Inv X ac U H s->RelV x v->r x H Q-> wpAny (model X.prog X.w) X.A (f v) (EP X ac U Q) X.xe s
def dR (X:Cx) (f:ai) (r:Aac->Hp->VK->Prop):Prop:=∀(ac:Aaa) (s:ar) (U:St) (H:Hp) (xs:Aac) (us:Aad) (Q:VK),Inv X ac U H s->cx xs us->r xs H Q-> wpAny (model X.prog X.w) X.A (call f us) (EP X ac U Q) X.xe s
def aap (X:Cx) (r:V->Hp->(Bool->Hp->Prop)->Prop):Prop:=∀(ac:Aaa) (s:ar) (U:St) (H:Hp) (x:V) (v:ai) (Q:Bool->Hp->Prop),Inv X ac U H s->RelV x v->r x H Q-> wpAny (model X.prog X.w) X.A (truthy v) (TP X ac U Q) X.xe s
def oH (r:R2) (ta tb:TE):TE:=λU H Q=>ta U H λx H1=>tb U H1 λy H2=>r x y H2 Q
def tUn (r:V->Hp->VK->Prop) (ta:TE):TE:=λU H Q=>ta U H λx H1=>r x H1 Q
def rI (C:Int->Int->Prop) (g:Int->Int->V):R2:=λx y H Q=>∃i j,x=.int i/\y=.int j/\C i j/\Q (g i j) H
def KU (g:Int->Int->V):R2:=λx y H Q=>∃i j,x=.int i/\y=.int j/\Q (g i j) H
def rU (g:Int->V):V->Hp->VK->Prop:=λx H Q=>∃i,x=.int i/\Q (g i) H
section
variable {a b c:Expr}{ta tb tc:TE}{pos:Pos}
def Qq {U}{H}{s}(ha:PE X a ta) (hb:PE X b tb) {R:V->V->Hp->Prop}(I:Inv X ac U H s) (h:ta U H λx H1=>tb U H1 λy H2=>R x y H2) {f:ai->ai->Sem ai}(hf:∀v u s2 x y H2,Inv X ac U H2 s2->RelV x v->RelV y u->R x y H2->wpAny (model X.prog X.w) X.A (f v u) Q X.xe s2):
  wpAny (model X.prog X.w) X.A (eval a X.env) (λv cZ=>wpAny (model X.prog X.w) X.A (eval b X.env) (λu jB=>wpAny (model X.prog X.w) X.A (f v u) Q X.xe jB) X.xe cZ) X.xe s:=by
 refine dq (ha ac s U H _ I h) λv s1 ⟨x,H1,I1,r1,q1⟩=>?_;refine dq (hb ac s1 U H1 _ I1 q1) λu s2 ⟨y,H2,I2,r2,q2⟩=>?_;exact hf v u s2 x y H2 I2 r1 r2 q2
def bQ (ho:gT X (binaryOp op) r) (ha:PE X a ta) (hb:PE X b tb):PE X (.BinOp a op b pos) (oH r ta tb):=by intro ac s U H Q I h;exact wpAny_BinOp (Qq ha hb I h λv u s2 x y H2 I2 rx ry q=>ho ac s2 U H2 x y v u Q I2 rx ry q)
def sv (ho:ZG X (unaryOp op) r) (ha:PE X a ta):PE X (.UnaryOp op a pos) (tUn r ta):=by intro ac s U H Q I h;exact UnaryOp_ (dq (ha ac s U H _ I h) λv s1 ⟨x,H1,I1,r1,q1⟩=>ho ac s1 U H1 x v Q I1 r1 q1)
def Qr {g:Int->Int->Int}(rule:∀(i j:Int) (t u:Tok) (s:ar) (Q:Aaf) (E:Aaf),C i j->Q (.int (g i j) s.toks) {s with toks:=s.toks+1}->wpAny (model X.prog X.w) X.A (f (.int i t) (.int j u)) Q E s):
  gT X f (rI C λi j=>.int (g i j)):=by
 intro ac s U H x y v u Q I rx ry h;obtain⟨i,j,rfl,rfl,hc,q⟩:=h;obtain⟨t,rfl⟩:=rx;obtain⟨t',rfl⟩:=ry;exact rule i j t t' s _ _ hc ⟨.int (g i j),H,I.tok _,⟨_,rfl⟩,q⟩
def Vv {g:Int->Int->Int}(rule:∀(i j:Int) (t u:Tok) (s:ar) (Q:Aaf) (E:Aaf),Q (.int (g i j) s.toks) {s with toks:=s.toks+1}->wpAny (model X.prog X.w) X.A (f (.int i t) (.int j u)) Q E s):
  gT X f (KU λi j=>.int (g i j)):=by
 intro ac s U H x y v u Q I rx ry h;obtain⟨i,j,rfl,rfl,q⟩:=h;obtain⟨t,rfl⟩:=rx;obtain⟨t',rfl⟩:=ry;exact rule i j t t' s _ _ ⟨.int (g i j),H,I.tok _,⟨_,rfl⟩,q⟩
def KW {g:Int->Int->Bool}(rule:∀(i j:Int) (t u:Tok) (s:ar) (Q:Aaf) (E:Aaf),Q (.bool (g i j)) s->wpAny (model X.prog X.w) X.A (f (.int i t) (.int j u)) Q E s):
  gT X f (KU λi j=>.bl (g i j)):=by
 intro ac s U H x y v u Q I rx ry h;obtain⟨i,j,rfl,rfl,q⟩:=h;obtain⟨t,rfl⟩:=rx;obtain⟨t',rfl⟩:=ry;exact rule i j t t' s _ _ ⟨.bl (g i j),H,I,rfl,q⟩
def aaq (i j:Int):Prop:=0<j/\j<1073741824
def Vw (i j:Int):Prop:=0<=j/\j<=1000000/\i.natAbs<2^64
def KY (i j:Int):Prop:=(-(2^64)<i/\i<2^64)\/(-(2^64)<j/\j<2^64)
def KY.ok (h:KY i j):IntMulOk i j:=by
 rcases h with⟨h1,h2⟩|⟨h1,h2⟩
 .exact .of_left (intBits_le_64 h1 h2)
 .exact .of_right (intBits_le_64 h1 h2)
def fF:gT X (binaryOp .Add) (KU λi j=>.int (i+j)):=Vv λ_ _ _ _ _ _ _ q=>add_int q
def rH:gT X (binaryOp .Sub) (KU λi j=>.int (i-j)):=Vv λ_ _ _ _ _ _ _ q=>sub_int q
def kS:gT X (binaryOp .Mult) (rI KY λi j=>.int (i*j)):=Qr λ_ _ _ _ _ _ _ hc q=>mul_int q hc.ok
def tY:gT X (binaryOp .FloorDiv) (rI aaq λi j=>.int (i/j)):=Qr λi j _ _ _ _ _ hc q=>by have h1:(0:Int)<j:=hc.1;have h2:j<1073741824:=hc.2;exact floordiv_int ω (by rw[ow i ω];exact q) (.inl (PyProof.noPylong_small ω))
def kT:gT X (binaryOp .Mod) (rI (λ_ j=>0<j) λi j=>.int (i %j)):=Qr λi j _ _ _ _ _ hc q=>by have h1:(0:Int)<j:=hc;exact mod_int' ω (by rw[Int.fmod_eq_emod_of_nonneg i ω];exact q)
def me:gT X (binaryOp .Pow) (rI Vw λi j=>.int (i^j.toNat)):=Qr λ_ _ _ _ _ _ _ hc q=>pow_int_small hc.1 hc.2.1 hc.2.2 q
def unI {g:Int->Int}(rule:∀(i:Int) (t:Tok) (s:ar) (Q:Aaf) (E:Aaf),Q (.int (g i) s.toks) {s with toks:=s.toks+1}->wpAny (model X.prog X.w) X.A (f (.int i t)) Q E s):
  ZG X f (rU λi=>.int (g i)):=by
 intro ac s U H x v Q I rx h;obtain⟨i,rfl,q⟩:=h;obtain⟨t,rfl⟩:=rx;exact rule i t s _ _ ⟨.int (g i),H,I.tok _,⟨_,rfl⟩,q⟩
def Qs:ZG X (unaryOp .USub) (rU λi=>.int (-i)):=unI λ_ _ _ _ _ q=>neg_int q
end
def Vx:V->V->Bool
 | .e_,.e_=>true| .e_,.int _=>true| .int _,.e_=>true| .e_,.bl _=>true| .bl _,.e_=>true| .e_,.str _=>true| .str _,.e_=>true
 | .int _,.int _=>true| .bl _,.bl _=>true| .str _,.str _=>true| .CL _,.CL _=>true
 | .int _,.str _=>true| .str _,.int _=>true| .bl _,.str _=>true| .str _,.bl _=>true
 |_,_=>false
def rEq:R2:=λx y H Q=>Vx x y=true/\Q (.bl (decide (x=y))) H
def rNe:R2:=λx y H Q=>Vx x y=true/\Q (.bl (!decide (x=y))) H
def CT:decide (V.int i=V.int j)=(i==j):=by rw[tR];simp
def GR:decide (V.bl i=V.bl j)=(i==j):=by rw[tR];simp
def CU:decide (V.str i=V.str j)=(i==j):=by rw[tR];simp
def CV:decide (V.CL i=V.CL j)=(i.toList==j.toList):=by rw[tR];cases i;cases j;simp
section
variable {a b c:Expr}{ta tb tc:TE}{pos:Pos}
def ed {U}{H}{s}(I:Inv X ac U H s) (q:Q (.bl k) H) (e:k=k'):EP X ac U Q (.bool k') s:=by subst e;exact⟨.bl k,H,I,rfl,q⟩
def Vy:gT X (compareOp .Eq) rEq:=by
 intro ac s U H x y v u Q I rx ry h;obtain⟨hs,q⟩:=h;cases x with
 |e_=>
  cases rx;cases y with
  |e_=>cases ry;exact EqNone.eq_none_none (ed I q ς)
  |bl j=>cases ry;exact EqNone.eq_none_bool (ed I q ς)
  |int j=>obtain⟨t',rfl⟩:=ry;exact EqNone.eq_none_int (ed I q ς)
  |str j=>obtain⟨t',rfl⟩:=ry;exact EqNone.eq_none_str (ed I q ς)
  |_=>exact absurd (show false=true from hs) bD
 |bl i=>
  cases rx;cases y with
  |e_=>cases ry;exact EqNone.eq_bool_none (ed I q ς)
  |bl j=>cases ry;exact eq_bool (ed I q GR)
  |str j=>obtain⟨t',rfl⟩:=ry;exact EqMixed.eq_bool_str (ed I q ς)
  |_=>exact absurd (show false=true from hs) bD
 |int i=>
  obtain⟨t,rfl⟩:=rx;cases y with
  |e_=>cases ry;exact EqNone.eq_int_none (ed I q ς)
  |int j=>obtain⟨t',rfl⟩:=ry;exact eq_int (ed I q CT)
  |str j=>obtain⟨t',rfl⟩:=ry;exact EqMixed.eq_int_str (ed I q ς)
  |_=>exact absurd (show false=true from hs) bD
 |str i=>
  obtain⟨t,rfl⟩:=rx;cases y with
  |e_=>cases ry;exact EqNone.eq_str_none (ed I q ς)
  |bl j=>cases ry;exact EqMixed.eq_str_bool (ed I q ς)
  |int j=>obtain⟨t',rfl⟩:=ry;exact EqMixed.eq_str_int (ed I q ς)
  |str j=>obtain⟨t',rfl⟩:=ry;exact eq_str (ed I q CU)
  |_=>exact absurd (show false=true from hs) bD
 |CL i=>
  obtain⟨t,rfl⟩:=rx;cases y with
  |CL j=>obtain⟨t',rfl⟩:=ry;exact PySem.W.eq_bytes (ed I q CV)
  |_=>exact absurd (show false=true from hs) bD
 |_=>cases y<;>exact absurd (show false=true from hs) bD
def Ow:gT X (compareOp .NotEq) rNe:=by
 intro ac s U H x y v u Q I rx ry h;obtain⟨hs,q⟩:=h;cases x with
 |e_=>
  cases rx;cases y with
  |e_=>cases ry;exact EqNone.ne_none_none (ed I q ς)
  |bl j=>cases ry;exact EqNone.ne_none_bool (ed I q ς)
  |int j=>obtain⟨t',rfl⟩:=ry;exact EqNone.ne_none_int (ed I q ς)
  |str j=>obtain⟨t',rfl⟩:=ry;exact EqNone.ne_none_str (ed I q ς)
  |_=>exact absurd (show false=true from hs) bD
 |bl i=>
  cases rx;cases y with
  |e_=>cases ry;exact EqNone.ne_bool_none (ed I q ς)
  |bl j=>cases ry;exact ne_bool (ed I q (dA not GR))
  |str j=>obtain⟨t',rfl⟩:=ry;exact EqMixed.ne_bool_str (ed I q ς)
  |_=>exact absurd (show false=true from hs) bD
 |int i=>
  obtain⟨t,rfl⟩:=rx;cases y with
  |e_=>cases ry;exact EqNone.ne_int_none (ed I q ς)
  |int j=>obtain⟨t',rfl⟩:=ry;exact ne_int (ed I q (dA not CT))
  |str j=>obtain⟨t',rfl⟩:=ry;exact EqMixed.ne_int_str (ed I q ς)
  |_=>exact absurd (show false=true from hs) bD
 |str i=>
  obtain⟨t,rfl⟩:=rx;cases y with
  |e_=>cases ry;exact EqNone.ne_str_none (ed I q ς)
  |bl j=>cases ry;exact EqMixed.ne_str_bool (ed I q ς)
  |int j=>obtain⟨t',rfl⟩:=ry;exact EqMixed.ne_str_int (ed I q ς)
  |str j=>obtain⟨t',rfl⟩:=ry;exact ne_str (ed I q (dA not CU))
  |_=>exact absurd (show false=true from hs) bD
 |CL i=>
  obtain⟨t,rfl⟩:=rx;cases y with
  |CL j=>obtain⟨t',rfl⟩:=ry;exact PySem.W.ne_bytes (ed I q (dA not CV))
  |_=>exact absurd (show false=true from hs) bD
 |_=>cases y<;>exact absurd (show false=true from hs) bD
def Vz:gT X (compareOp .Lt) (KU λi j=>.bl (decide (i<j))):=KW λ_ _ _ _ _ _ _ q=>lt_int q
def qw:gT X (compareOp .LtE) (KU λi j=>.bl (decide (i<=j))):=KW λ_ _ _ _ _ _ _ q=>le_int q
def zi:gT X (compareOp .Gt) (KU λi j=>.bl (decide (j<i))):=KW λ_ _ _ _ _ _ _ q=>gt_int q
def GS:gT X (compareOp .GtE) (KU λi j=>.bl (decide (j<=i))):=KW λ_ _ _ _ _ _ _ q=>ge_int q
def EC:gT X (compareOp .Lt) (λx y H Q=>∃i j,x=.str i/\y=.str j/\Q (.bl (decide (i.cps.toList<j.cps.toList))) H):=by intro ac s U H x y v u Q I rx ry h;obtain⟨i,j,rfl,rfl,q⟩:=h;obtain⟨t,rfl⟩:=rx;obtain⟨t',rfl⟩:=ry;exact lt_str (ed I q rfl)
def KZ:gT X (compareOp .IsNot) (λx y H Q=>y=.e_/\Q (.bl (!decide (x=.e_))) H):=by
 intro ac s U H x y v u Q I rx ry h;obtain⟨rfl,q⟩:=h;cases ry;refine isnot_none_gen (ed I q ?_);cases x<;>first
  |(cases rx;rfl)
  |(obtain⟨t,rfl⟩:=rx;rfl)
def gT.or {f:ai->ai->Sem ai}{r r':R2}(h:gT X f r) (h':gT X f r'):gT X f (λx y H Q=>r x y H Q\/r' x y H Q):=by
 intro ac s U H x y v u Q I rx ry q;rcases q with q|q
 .exact h ac s U H x y v u Q I rx ry q
 .exact h' ac s U H x y v u Q I rx ry q
def cO (b:Expr) (h:op≠.In:=by decide) (h2:op≠.NotIn:=by decide):behindInMarks op b=false:=by
 have e1:(op==CmpOp.In)=false:=by cases op<;>first|rfl|exact absurd rfl h
 have e2:(op==CmpOp.NotIn)=false:=by cases op<;>first|rfl|exact absurd rfl h2
 cases b<;>simp[behindInMarks,e1,e2]
def jt {op:CmpOp}{r:R2}(ho:gT X (compareOp op) r) (ha:PE X a ta) (hb:PE X b tb) (hm:behindInMarks op b=false):PE X (.Compare a [op] [b] pos) (oH r ta tb):=by intro ac s U H Q I h;exact wpAny_Compare1 (Qq ha hb I h λv u s2 x y H2 I2 rx ry q=>ho ac s2 U H2 x y v u Q I2 rx ry q) hm
def Ox (t:TE):TT:=λU H Q=>t U H λx H'=>∃k,x=.bl k/\Q k H'
def qx (ho:gT X (compareOp op) r) (ha:PE X a ta) (hb:PE X b tb) (hm:behindInMarks op b=false):PT X (.Compare a [op] [b] pos) (Ox (oH r ta tb)):=by
 intro ac s U H Q I h;refine yZ (dq (ha ac s U H _ I h) λv s1 ⟨x,H1,I1,r1,q1⟩=>dq (hb ac s1 U H1 _ I1 q1) λu s2 ⟨y,H2,I2,r2,q2⟩=>
  dq (ho ac s2 U H2 x y v u _ I2 r1 r2 q2) λc s3 ⟨z,H3,I3,r3,k,e,q3⟩=>?_) hm;subst e;cases r3;exact bB ⟨H3,I3,q3⟩
def GU (r r':R2) (ta tb tc:TE):TE:=λU H Q=>ta U H λx H1=>tb U H1 λy H2=>r x y H2 λz H3=>∃k,z=.bl k/\ (if k=true then tc U H3 λw' H4=>r' y w' H4 Q else Q (.bl false) H3)
def zj (ho:gT X (compareOp op) r) (wt:gT X (compareOp GV) r') (ha:PE X a ta) (hb:PE X b tb) (hc:PE X c tc) (hm:lastMarks [op,GV] [b,c]=false:=by with_unfolding_all rfl):PE X (.Compare a [op,GV] [b,c] pos) (GU r r' ta tb tc):=by
 intro ac s U H Q I h;refine Compare_chain (dq (ha ac s U H _ I h) λv s1 ⟨x,H1,I1,r1,q1⟩=>chain_link (dq (hb ac s1 U H1 _ I1 q1) λu s2 ⟨y,H2,I2,r2,q2⟩=>
  dq (ho ac s2 U H2 x y v u _ I2 r1 r2 q2) λd s3 ⟨z,H3,I3,r3,k,e,q3⟩=>?_)) hm;subst e;cases r3;refine bB ?_;cases k with
 |false=>exact ite_ff ⟨.bl false,H3,I3,rfl,q3⟩
 |true=>exact ite_tt (chain_last (dq (hc ac s3 U H3 _ I3 q3) λw' s4 ⟨z',H4,I4,r4,q4⟩=>wt ac s4 U H4 y z' u w' Q I4 r2 r4 q4))
def GW (ho:gT X (compareOp op) r) (wt:gT X (compareOp GV) r') (ha:PE X a ta) (hb:PE X b tb) (hc:PE X c tc) (hm:lastMarks [op,GV] [b,c]=false:=by with_unfolding_all rfl):PT X (.Compare a [op,GV] [b,c] pos) (Ox (GU r r' ta tb tc)):=by
 intro ac s U H Q I h;refine isTrue_chain (dq (ha ac s U H _ I h) λv s1 ⟨x,H1,I1,r1,q1⟩=>test_link (dq (hb ac s1 U H1 _ I1 q1) λu s2 ⟨y,H2,I2,r2,q2⟩=>
  dq (ho ac s2 U H2 x y v u _ I2 r1 r2 q2) λd s3 ⟨z,H3,I3,r3,k,e,q3⟩=>?_)) hm;subst e;cases r3;refine bB ?_;cases k with
 |false=>obtain⟨k',e',q'⟩:=q3;cases e';exact ite_ff ⟨H3,I3,q'⟩
 |true=>refine ite_tt (test_last (dq (hc ac s3 U H3 _ I3 q3) λw' s4 ⟨z',H4,I4,r4,q4⟩=>dq (wt ac s4 U H4 y z' u w' _ I4 r2 r4 q4) λd' s5 ⟨z2,H5,I5,r5,k2,e2,q5⟩=>?_));subst e2;cases r5;exact bB ⟨H5,I5,q5⟩
def Qt (K:Φ) (x:V) (H:Hp) (k:Bool):Prop:=match x with
 | .e_=>k=false
 | .bl b=>k=b
 | .int i=>k=(i !=0)
 | .str y=>y.length<=sizeLine/\k=((y.length:Int) !=0)
 | .CL y=>y.size<=sizeLine/\k=((y.size:Int) !=0)
 | .ref p=>(∃xs,gj K H p xs/\k= !xs.isEmpty)\/(∃xs,iY K H p xs/\k= !xs.isEmpty)\/∃kvs,H p=some (.dK kvs)/\k= !kvs.isEmpty
 |_=>False
def Bq {κ:Type}{kvs:List (κ×V)}{vs:List (κ×ai)}(r:KV kvs vs):(!vs.isEmpty)= !kvs.isEmpty:=by cases r<;>rfl
def ux (r:cx xs bV):(!bV.toArray.isEmpty)= !xs.isEmpty:=by cases r<;>simp
def rJ:(sizeLine:Nat)<2^63:=by rw[kW];decide
def GX:aap X (λx H Q=>∃k,Qt X.K x H k/\Q k H):=by
 intro ac s U H x v Q I rx h;obtain⟨k,e,q⟩:=h;have hl:=rJ;have hs:sizeLine=16777216:=kW;cases x with
 |e_=>cases rx;have e':k=false:=e;subst e';exact truthy_none ⟨H,I,q⟩
 |bl b=>cases rx;have e':k=b:=e;subst e';exact bB ⟨H,I,q⟩
 |int i=>obtain⟨t,rfl⟩:=rx;have e':k=(i !=0):=e;subst e';exact PySem.P.truthy_int ⟨H,I,q⟩
 |str y=>obtain⟨t,rfl⟩:=rx;obtain⟨hy,e'⟩:y.length<=sizeLine/\k=((y.length:Int) !=0):=e;subst e';exact PySem.P.truthy_str ω ⟨H,I.tok _,q⟩
 |CL y=>obtain⟨t,rfl⟩:=rx;obtain⟨hy,e'⟩:y.size<=sizeLine/\k=((y.size:Int) !=0):=e;subst e';exact PySem.W.truthy_bytes ω ⟨H,I.tok _,q⟩
 |ref p=>
  cases rx;have e':(∃xs,gj X.K H p xs/\k= !xs.isEmpty)\/(∃xs,iY X.K H p xs/\k= !xs.isEmpty)\/∃kvs,H p=some (.dK kvs)/\k= !kvs.isEmpty:=e;rcases e' with⟨xs,hx,e'⟩|⟨xs,hx,e'⟩|⟨kvs,hx,e'⟩
  .subst e';obtain⟨bV,r,pl,hz⟩:=I.list hx;have hlen:=r.length;exact wpAny_truthy_list pl.isList (by simp only[aC];omega) ⟨H,I.tok _,by rw[ux r];exact q⟩
  .subst e';obtain⟨bV,r,pl,hz⟩:=I.tuple hx;have hlen:=r.length;exact truthy_tuple pl (by simp only[aC];omega) ⟨H,I.tok _,by rw[ux r];exact q⟩
  .subst e';obtain⟨hz,hS,vs,r,m⟩:kvs.length<=sizeLine/\(p==sysModules)=false/\∃vs,KV kvs vs/\s.heap.DictOf (fi X.prog X.w) p vs:=I.dh p _ hx;have hlen:kvs.length=vs.length:=d9 r;exact wpAny_truthy_dict hS m ω ⟨H,I.tok _,by rw[Bq r];exact q⟩
 |_=>exact(show False from e).elim
def GY (ha:PE X a ta) (he:∀whole,isTrue a X.env whole=(do let v<-whole;standAt a.pos;holding [v] (truthy v))):
  PT X a (λU H Q=>ta U H λx H'=>∃k,Qt X.K x H' k/\Q k H'):=by
 intro ac s U H Q I h;exact isTrue_plain (dq (ha ac s U H _ I h) λv s1 ⟨x,H1,I1,r1,q1⟩=>GX ac s1 U H1 x v Q I1 r1 q1) (he _)
def mB (r:cx [x] us):∃u,us=[u]/\RelV x u:=by
 cases r with
 |cons r1 r2=>cases r2;exact⟨_,rfl,r1⟩
def vals2 (r:cx [x,y] us):∃u w',us=[u,w']/\RelV x u/\RelV y w':=by
 cases r with
 |cons r1 r2=>
  cases r2 with
  |cons r3 r4=>cases r4;exact⟨_,_,rfl,r1,r3⟩
def lB:dR X (.builtin "abs") (λxs H Q=>∃i,xs=[.int i]/\Q (.int (if i<0 then-i else i)) H):=by intro ac s U H xs us Q I r h;obtain⟨i,rfl,q⟩:=h;obtain⟨u,rfl,t,rfl⟩:=mB r;exact call_abs_int λu tk=>⟨.int (if i<0 then-i else i),H,I.tok _,⟨_,rfl⟩,q⟩
def ED (hc:X.calm=true):dR X (.builtin "min") (λxs H Q=>∃i j,xs=[.int i,.int j]/\Q (.int (if j<i then j else i)) H):=by
 intro ac s U H xs us Q I r h;obtain⟨i,j,rfl,q⟩:=h;obtain⟨u,w',rfl,⟨t,rfl⟩,⟨t',rfl⟩⟩:=vals2 r;refine min_two_ints (I.ok.hd hc) λh' tk k=>⟨_,H,I.kept k,?_,q⟩;by_cases hj:j<i
 .rw[aJ hj,aJ hj];exact⟨_,rfl⟩
 .rw[aI hj,aI hj];exact⟨_,rfl⟩
end
structure Br (h:Heap) (x dx C:aq) (mA:Aae):Prop where
 obj:h.get? x=some (PySem.W.instObj C dx)
 ns:h.Ns1 dx mA
 ne:dx≠x
def EE {h:Heap} (n:h.Ns1 dx mA):∃od,h.get? dx=some od/\∀name,PySem.W.lookIn name od=some (mA name):=by
 obtain⟨o,es,ep,ho,hd,hk,_,hm⟩:=n;refine⟨o,ho,λname=>?_⟩;have e:=hm name;unfold nsFind findBy at e;rw[<-Array.find?_toList] at e;unfold PySem.W.lookIn;rw[hd];dsimp only;split
 .rename_i y q;rw[q] at e;exact dA some e
 .rename_i q;rw[q] at e;have a:es.toList.any (·.refKey)=false:=by rw[List.any_eq_false];intro y hy;obtain⟨z,t,K0⟩:=hk y (Array.mem_toList_iff.mp hy);simp[DictEntry.refKey,K0]
  have a':¬es.toList.any (·.refKey)=true:=by rw[a];exact bD
  rw[aI a'];exact dA some e
def Br.look (I:Br h x dx C mA):∃od,PySem.W.InstAt h x (PySem.W.instObj C dx) C (some od)/\∀name,PySem.W.lookIn name od=some (mA name):=
 let⟨od,ho,hl⟩:=EE I.ns
 ⟨od,⟨I.obj,rfl,rfl,ho⟩,hl⟩
variable {prog:aQ}{K:Φ}{A:bL}
section
variable {x dx C f:aq}{mA:Aae}{name:Str}{v:ai}
def get_map (X:K.In s.heap) (I:Br s.heap x dx C mA) (hg:PySem.W.plainGet K C name=true) (hh:PySem.W.hasDictIn K C=true) (ha:PySem.W.findIn K (.ref C) name=some none) (hv:mA name=some v) (Qu:PySem.W.handedIn v=true) (h:Q v {s with toks:=s.toks+1}):
  wpAny (model prog w) A (getAttr (.ref x) name expr) Q E s:=by
 obtain⟨od,J,hl⟩:=I.look;exact PySem.W.get_value X J (xx hg).1 (PySem.W.findObj_own hh ha rfl (by rw[hl,hv])) Qu h
def GZ (X:K.In s.heap) (I:Br s.heap x dx C mA) (hg:PySem.W.plainGet K C name=true) (hf:PySem.W.findIn K (.ref C) name=some (some (.ref f))) (ht:PySem.W.isFn K (.ref f)=true) (hv:mA name=none) (h:Q (.ref f,[.ref x]) s):
  wpAny (model prog w) A (getMethod (.ref x) name pl) Q E s:=by
 obtain⟨od,J,hl⟩:=I.look;exact PySem.W.method_fn X J (xx hg).1 (xx hg).2 hf (k_.mp ht) (by show(PySem.W.lookIn name od).map (·.isSome)=some false;rw[hl,hv];rfl) h
def K1 (X:K.In s.heap) (I:Br s.heap x dx C mA) (hs:PySem.W.findIn K (.ref C) "__setattr__"=some (some (.builtin "object.__setattr__"))) (hp:PySem.W.plainOver K C=true) (ht:PySem.W.takerIn K C name=some none) (hh:PySem.W.hasDictIn K C=true) (hw:PySem.Within mA ns) (hsz:ns.length<=sizeLine) (h:∀h',Br h' x dx C (λy=>if y=name then some v else mA y)->Heap.SameBut dx s.heap h'->Q () {s with heap:=h',toks:=s.toks+2}):
  wpAny (model prog w) A (setAttr (.ref x) name v) Q E s:=by
 obtain⟨od,J,hl⟩:=I.look;refine PySem.W.set_plain X J hs (PySem.W.osa_open (s:={s with toks:=s.toks+1}) (r:=none) X J hp ht λb=>?_);obtain⟨cd,hc,hd'⟩:=PySem.W.any_some hh;have hx:s.heap.get? x=some ⟨.ref C,some dx,.plain,#[]⟩:=I.obj;refine aa (au (aa (aa (wpAny_loadPart hx (aa (PySem.W.Looks.here (s:={s with toks:=s.toks+1}) (PySem.W.looks_clsIn X hc) ?_))))));rw[hd'];refine au (a:=some dx) (aa (au (aa ?_)));refine wpAny_nsSet1 (s:={s with toks:=s.toks+1}) I.ns λh' ZH K2=>?_;obtain⟨oD,esD,epD,hoD,hdD,hcD⟩:=ZH.count (Within.cons name v hw);refine aa (wpAny_lookBehind hoD (by rw[hdD];exact pastItsLine_dict (aB hcD (by rw[bE];omega))) ?_);exact au (h _ ⟨(K2.2 _ (eJ I.ne)).trans I.obj,ZH,I.ne⟩ K2)
def G0 {R:Result->ar->Prop}{vs:Aad}{kw:List (Str×ai)}(X:K.In s.heap) (hm:PySem.W.makesIn K C=true) (hi:PySem.W.findIn K (.ref C) "__init__"=some (some (.ref f))) (hf:PySem.W.typeIn K (.ref f)=some (.type "function")) (h:codeAny (model prog w) (A.under (.builtin "type.__call__" ⟨.ref C::vs,kw⟩)) (.call (.ref f) ⟨.ref (s.heap.objs.size+1)::vs,kw⟩) (PySem.W.InitBack (s.heap.objs.size+1) R) {s with heap:=(s.heap.push PySem.W.emptyDict).push (PySem.W.instObj C s.heap.objs.size)}):
  codeAny (model prog w) A (.call (.ref C) ⟨vs,kw⟩) R s:=by
 obtain⟨hh,g,d,t,os⟩:=s;exact PySem.W.make_core (PySem.W.makes_of X hm) (PySem.W.looks_findIn X hi) (λself=>PySem.W.bind_fn X self hf) (.inl rfl) h
end
def jU (f:Str) (v:V):List (Str×V)->List (Str×V)
 | []=>[(f,v)]
 |(g,x)::r=>if g=f then(g,v)::r else(g,x)::jU f v r
def sx (f g:Str) (v:V):∀fs:List (Str×V),(jU f v fs).lookup g=if g=f then some v else fs.lookup g
 | []=>by
  show List.lookup g [(f,v)]=_;by_cases h:g=f
  .have hb:(g==f)=true:=k_.mpr h;simp only[List.lookup,hb,aJ h]
  .have hb:(g==f)=false:=fN.mpr h;simp only[List.lookup,hb,aI h]
 |(k,x)::r=>by
  have ih:=sx f g v r;rw[show jU f v ((k,x)::r)=(if k=f then(k,v)::r else(k,x)::jU f v r) from rfl];by_cases hk:k=f
  .rw[aJ hk];by_cases h:g=k
   .have hb:(g==k)=true:=k_.mpr h;simp only[List.lookup,hb,aJ (h.trans hk)]
   .have hb:(g==k)=false:=fN.mpr h;simp only[List.lookup,hb,aI (λe:g=f=>h (e.trans hk.symm))]
  .rw[aI hk];by_cases h:g=k
   .have hb:(g==k)=true:=k_.mpr h;simp only[List.lookup,hb,aI (λe:g=f=>hk (h.symm.trans e))]
   .have hb:(g==k)=false:=fN.mpr h;simp only[List.lookup,hb];exact ih
def rL (f:Str) (v:V):∀fs:List (Str×V),f∈(jU f v fs).map (·.1)/\∀g,g∈fs.map (·.1)->g∈(jU f v fs).map (·.1)
 | []=>⟨by simp[jU],λg h=>by simp at h⟩
 |(k,x)::r=>by
  obtain⟨i1,i2⟩:=rL f v r;rw[show jU f v ((k,x)::r)=(if k=f then(k,v)::r else(k,x)::jU f v r) from rfl];by_cases hk:k=f
  .rw[aJ hk];subst hk;exact⟨ς,λg h=>by simpa using h⟩
  .rw[aI hk];refine⟨?_,λg h=>?_⟩
   .rw[bG];exact bJ _ i1
   .rw[bG] at h⊢;rcases aU.mp h with e|e
    .exact aU.mpr (.inl e)
    .exact bJ _ (i2 g e)
def sy (f:Str) (v:V):∀fs:List (Str×V),(jU f v fs).length<=fs.length+1
 | []=>by simp[jU]
 |(k,x)::r=>by
  have ih:=sy f v r;rw[show jU f v ((k,x)::r)=(if k=f then(k,v)::r else(k,x)::jU f v r) from rfl];by_cases hk:k=f
  .rw[aJ hk,bE,bE];omega
  .rw[aI hk,bE,bE];omega
def mO.some_of (r:mO (some v) o):∃u,o=some u/\RelV v u:=by
 cases o with
 |none=>exact(show False from r).elim
 |some u=>exact⟨u,rfl,r⟩
def mO.none_of (r:mO none o):o=none:=by
 cases o with
 |none=>rfl
 |some u=>exact(show False from r).elim
def EF (r:RelV v u):PySem.W.handedIn u=true:=by
 cases v with
 |e_=>cases(show u=Value.none from r);rfl
 |bl b=>cases(show u=Value.bool b from r);rfl
 |int i=>obtain⟨t,e⟩:=(show∃t,u=Value.int i t from r);cases e;rfl
 |str x=>obtain⟨t,e⟩:=(show∃t,u=Value.str x t from r);cases e;rfl
 |CL b=>obtain⟨t,e⟩:=(show∃t,u=Value.bytes b t from r);cases e;rfl
 |si b=>obtain⟨t,e⟩:=(show∃t,u=Value.float b t from r);cases e;rfl
 |ref a=>cases(show u=Value.ref a from r);rfl
 |ty n=>cases(show u=Value.type n from r);rfl
section
variable {H H':Hp}{h h':Heap}{a C dx:aq}{fs Vl:List (Str×V)}
def tZ (dh:nU P w H h) (e:H a=some (.ins C dx fs)):∃mA,Br h a dx C mA/\(∀f,mO (fs.lookup f) (mA f))/\PySem.Within mA (fs.map (·.1))/\fs.length<=1000/\H dx=some (.own a):=by obtain⟨d,z,ne,ob,mA,n,r,q⟩:=(show fD P w H h a (.ins C dx fs) from dh a _ e);exact⟨mA,⟨ob,n,ne⟩,r,q,z,d⟩
end
structure CW (K:Φ) (C:aq):Prop where
 pg:PySem.W.plainGet K C Str.empty=true
 hd:PySem.W.hasDictIn K C=true
 po:PySem.W.plainOver K C=true
 sa:PySem.W.findIn K (.ref C) "__setattr__"=some (some (.builtin "object.__setattr__"))
def CW.get {K:Φ}(c:CW K C) (f:Str):PySem.W.plainGet K C f=true:=c.pg
def m_ (K:Φ) (C:aq) (f:Str):Prop:=PySem.W.findIn K (.ref C) f=some none
def m_.VA {K:Φ} (n:m_ K C f):PySem.W.takerIn K C f=some none:=by unfold PySem.W.takerIn;rw[show PySem.W.findIn K (.ref C) f=some none from n];rfl
structure Bs (K:Φ) (C:aq) (m:Str) (f:aq):Prop where
 at_:PySem.W.findIn K (.ref C) m=some (some (.ref f))
 fn:PySem.W.isFn K (.ref f)=true
 kp:PySem.W.keepIn K (.ref f)=true
section
variable {a C dx:aq}{fs:List (Str×V)}{f:Str}{v:V}
def Bt (I:Inv X ac U H s) (e:H a=some (.ins C dx fs)) (c:CW X.K C) (n:m_ X.K C f) (l:fs.lookup f=some v) (h:∀u s',Inv X ac U H s'->RelV v u->Q u s'):wpAny (model X.prog X.w) A (getAttr (.ref a) f b) Q E s:=by obtain⟨mA,O,r,_,_,_⟩:=tZ I.dh e;obtain⟨u,hu,ru⟩:=mO.some_of (v:=v) (o:=mA f) (by rw[<-l];exact r f);exact get_map I.pJ O (c.get f) c.hd n hu (EF ru) (h u _ (I.tok _) ru)
def uy (I:Inv X ac U H s) (e:H a=some (.ins C dx fs)) (c:CW X.K C) (k:Bs X.K C m g) (l:fs.lookup m=none) (h:Q (.ref g,[.ref a]) s):wpAny (model X.prog X.w) A (getMethod (.ref a) m pl) Q E s:=by obtain⟨mA,O,r,_,_,_⟩:=tZ I.dh e;have hn:mA m=none:=mO.none_of (by rw[<-l];exact r m);exact GZ I.pJ O (c.get m) k.at_ k.fn hn h
def Bu (I:Inv X ac U H s) (e:H a=some (.ins C dx fs)) (c:CW X.K C) (n:m_ X.K C f) (hl:fs.length<1000) (ry:RelV y u) (h:∀s',Inv X ac U (upd H a (.ins C dx (jU f y fs))) s'->Q () s'):wpAny (model X.prog X.w) A (setAttr (.ref a) f u) Q E s:=by
 obtain⟨mA,O,r,wi,_,ho⟩:=tZ I.dh e;have hz:(fs.map (·.1)).length<=sizeLine:=by rw[ah,kW];omega
 refine K1 I.pJ O c.sa c.po n.VA c.hd wi hz λh' O' sb=>h _ ?_;have hd:∃o,h'.get? dx=some o:=let⟨o,_,_,e',_⟩:=O'.ns;⟨o,e'⟩;refine I.write (x:=a) (e:=dx) (by rw[e];exact True.intro) (.inr ho) (λb q hb z=>(sb.2 b hb).trans z) hd ?_;refine⟨by rw[bN O.ne];exact ho,?_,O.ne,O'.obj,_,O'.ns,λg=>?_,λg hg=>?_⟩
 .have:=sy f y fs;omega
 .show mO ((jU f y fs).lookup g) (if g=f then some u else mA g);rw[sx];by_cases q:g=f
  .rw[aJ q,aJ q];exact ry
  .rw[aI q,aI q];exact r g
 .by_cases q:g=f
  .rw[q];exact(rL f y fs).1
  .refine(rL f y fs).2 g (wi g λz=>hg ?_);show(if g=f then some u else mA g)=none;rw[aI q];exact z
def Inv.made (I:Inv X ac U H s):Inv X ac U (upd (upd H s.heap.objs.size (.own (s.heap.objs.size+1))) (s.heap.objs.size+1) (.ins C s.heap.objs.size [])) {s with heap:=(s.heap.push PySem.W.emptyDict).push (PySem.W.instObj C s.heap.objs.size)}:=by
 have e1:(s.heap.push PySem.W.emptyDict).get? s.heap.objs.size=some PySem.W.emptyDict:=av s.heap rfl;have e2:((s.heap.push PySem.W.emptyDict).push (PySem.W.instObj C s.heap.objs.size)).get? (s.heap.objs.size+1)=some (PySem.W.instObj C s.heap.objs.size):=by have:=av (s.heap.push PySem.W.emptyDict) (o:=PySem.W.instObj C s.heap.objs.size) rfl;rwa[bP] at this
 have e3:(s.heap.push PySem.W.emptyDict).Ns s.heap.objs.size (λ_=>none):=⟨PySem.W.emptyDict,#[],_,e1,rfl,(λe he=>absurd he ς),λ_=>rfl⟩;have I1:=I.laid (a:=s.heap.objs.size) (o:=.own (s.heap.objs.size+1)) (h':=s.heap.push PySem.W.emptyDict) (t':=s.toks) (λb u q=>af _ q) (ao _) ⟨_,e1⟩;refine I1.laid (a:=s.heap.objs.size+1) (o:=.ins C s.heap.objs.size []) (t':=s.toks) (λb u q=>af _ q) (el (bP _ _)) ?_;have ne:s.heap.objs.size≠s.heap.objs.size+1:=aW (c_ _);refine⟨by rw[bN ne,ba],bH _,ne,e2,λ_=>none,(Heap.Ns1.of_empty e3).at λo q=>af _ q,λ_=>True.intro,λy hy=>absurd rfl hy⟩
def K3 {prog:aQ}{w:bg}{env:Env}{e:Expr}{f:Str}{pos:Pos}{s:ar}{Q:Aaf}(hb:attributeBase e f env (eval e env)=eval e env) (h:wpAny (model prog w) A (eval e env) (λo cZ=>wpAny (model prog w) A (getAttr o f true) Q E cZ) E s):wpAny (model prog w) A (eval (.Attribute e f pos) env) Q E s:=Attribute_any_ h (by rw[arm_eval_Attribute,hb])
end
def aar (K:Φ) (ta tv:TE) (f:Str):TS:=λD U H=>tv U H λy H1=>ta U H1 λx H2=>∃a C dx fs,x=.ref a/\H2 a=some (.ins C dx fs)/\CW K C/\m_ K C f/\fs.length<1000/\ D.nx U (upd H2 a (.ins C dx (jU f y fs)))
section
variable {o e value:Expr}{f:Str}{pos pos' aas:Pos}{ta tv:TE}
def Bv (ha:PE X o ta) (hv:PE X value tv) (hs:swapsWith value (some (.Attribute o f pos')) pos.line X.env=pure false):PS X (.Assign [.Attribute o f pos'] value pos) (aar X.K ta tv f):=by intro ac s U H D I h;refine plainObj_wpAny_Assign_Attribute (dq (hv ac s U H _ I h) λu s1 ⟨y,H1,I1,ry,q⟩=>dq (ha ac s1 U H1 _ I1 q) λov s2 ⟨x,H2,I2,rx,a,C,dx,fs,ex,ea,c,n,l,q2⟩=>?_) hs;subst ex;obtain rfl:ov=Value.ref a:=rx;exact Bu I2 ea c n l ry λs3 I3=>⟨U,_,I3,q2⟩
end
section
variable {Q:Aaf}{c:ai}{b:Bool}
inductive rM (K:Φ) (H:Hp):V->ai->Prop where
 |e_:rM K H .e_ (.type "NoneType")
 |bl (x:Bool):rM K H (.bl x) (.type "bool")
 |int (i:Int):rM K H (.int i) (.type "int")
 |str (x:Str):rM K H (.str x) (.type "str")
 |si (x:UInt64):rM K H (.si x) (.type "float")
 |lst {a:aq} {xs:Aac} (e:H a=some (.lst xs)):rM K H (.ref a) (.type "list")
 |Bj {a:aq} {o:Obj} {xs:Aac} (e:H a=some (.Bj o (.lst xs))):rM K H (.ref a) (.type "list")
 |tup {a:aq} {xs:Aac} (e:H a=some (.tup xs)):rM K H (.ref a) (.type "tuple")
 |dK {a:aq} {kvs:List (Key×V)} (e:H a=some (.dK kvs)):rM K H (.ref a) (.type "dict")
 |dT {a:aq} {kvs:List (List Key×V)} (e:H a=some (.dT kvs)):rM K H (.ref a) (.type "dict")
 |ins {a C dx:aq} {fs:List (Str×V)} (e:H a=some (.ins C dx fs)) (cl:CW K C) (ha:PySem.W.findIn K (.ref C) "__class__"=some (some (.builtin "object.__class__"))) (hn:PySem.W.specialIn K (.builtin "object.__class__") "__get__"=some (some (.builtin "getset_descriptor.__get__"))) (ZI:PySem.W.takesIn K (.builtin "object.__class__")=some true) (hm:PySem.W.mroIn K C (.type "object")=some true):rM K H (.ref a) (.ref C)
def wx {x:V}{u t:ai}(I:Inv X ac U H s) (rx:RelV x u) (ty:rM X.K H x t) (e:PySem.W.kitOne X.K t c=some b) (h:∀tk,Q (.bool b) {s with toks:=tk}):
  wpAny (model X.prog X.w) A (call (.builtin "isinstance") [u,c]) Q E s:=by
 cases ty with
 |e_=>cases(show u=Value.none from rx);exact eQ PySem.W.kitx_none I.pJ True.intro e (λz=>nomatch z) h
 |bl y=>cases(show u=Value.bool y from rx);exact eQ PySem.W.kitx_bool I.pJ True.intro e (λz=>nomatch z) h
 |int i=>obtain⟨t,q⟩:=(show∃t,u=Value.int i t from rx);cases q;exact eQ PySem.W.kitx_int I.pJ True.intro e (λz=>nomatch z) h
 |str y=>obtain⟨t,q⟩:=(show∃t,u=Value.str y t from rx);cases q;exact eQ PySem.W.kitx_str I.pJ True.intro e (λz=>nomatch z) h
 |si y=>obtain⟨t,q⟩:=(show∃t,u=Value.float y t from rx);cases q;exact eQ PySem.W.kitx_float I.pJ True.intro e (λz=>nomatch z) h
 | @lst a xs ea=>cases(show u=Value.ref a from rx);obtain⟨_,_,n,_,h1⟩:=(show fD X.prog X.w H s.heap a (.lst xs) from I.dh a _ ea);exact eQ PySem.W.kitx_list I.pJ ⟨_,h1,rfl⟩ e (λz=>nomatch z) h
 | @Bj a ob xs ea=>cases(show u=Value.ref a from rx);obtain⟨_,_,_,n,_,h1⟩:=(show fD X.prog X.w H s.heap a (.Bj ob (.lst xs)) from I.dh a _ ea);exact eQ PySem.W.kitx_list I.pJ ⟨_,h1,rfl⟩ e (λz=>nomatch z) h
 | @tup a xs ea=>cases(show u=Value.ref a from rx);obtain⟨_,_,_,p⟩:=(show fD X.prog X.w H s.heap a (.tup xs) from I.dh a _ ea);obtain⟨o,h1,h2,_⟩:=p;exact eQ PySem.W.kitx_tuple I.pJ ⟨o,h1,h2⟩ e (λz=>nomatch z) h
 | @dK a kvs ea=>cases(show u=Value.ref a from rx);obtain⟨_,_,vs,_,p⟩:=(show fD X.prog X.w H s.heap a (.dK kvs) from I.dh a _ ea);obtain⟨o,es,ep,h1,h2,_⟩:=p;exact eQ PySem.W.kitx_dict I.pJ ⟨o,h1,h2.1⟩ e (λz=>nomatch z) h
 | @dT a kvs ea=>cases(show u=Value.ref a from rx);obtain⟨_,_,xs,_,o,es,ep,h1,h2,_⟩:=(show fD X.prog X.w H s.heap a (.dT kvs) from I.dh a _ ea);exact eQ PySem.W.kitx_dict I.pJ ⟨o,h1,h2.1⟩ e (λz=>nomatch z) h
 | @ins a C dx fs ea cl ha hn ZI hm=>cases(show u=Value.ref a from rx);obtain⟨mA,O,_⟩:=tZ I.dh ea;obtain⟨od,J,_⟩:=O.look;exact eQ (PySem.W.kitx_own (cl.get _) cl.hd ha hn ZI hm) I.pJ J e (λz=>nomatch z) h
end
structure eS (k:Nat) (A:bL):Prop where
 hd:A.handled=none
 dp:A.depth+3*k+5<recursionLimit
 un:A.units+16*k+200<cLine
 gd:A.guards=some []
def eS.mono {A}(r:eS k A) (h:j<=k):eS j A:=⟨r.hd,by have:=r.dp;omega,by have:=r.un;omega,r.gd⟩
def eS.deeper {A}(r:eS (k+1) A) (env:Env):eS k (A.deeper env):=⟨r.hd,by have:=r.dp;show A.depth+1+3*k+5<_;omega,by have:=r.un;show A.units+3+16*k+200<_;omega,r.gd⟩
def eS.in1 {A}(r:eS (k+1) A):eS k A.in1:=⟨r.hd,by have:=r.dp;show A.depth+3*k+5<_;omega,by have:=r.un;show A.units+1+16*k+200<_;omega,r.gd⟩
def Bw {A:bL}:(A.under (.builtin "type.__call__" ⟨.ref C::us,kw⟩)).depth=A.depth+1:=by first|rfl|simp[Around.under,Code.weight,Code.isCreation,Code.isGuard,Code.isCaller,Code.frames,Code.isFrame,guardIds]
def Bx {A:bL}:(A.under (.builtin "type.__call__" ⟨.ref C::us,kw⟩)).units=A.units+1:=by first|rfl|simp[Around.under,Code.cUnits,Code.frames,Code.isFrame]
def zk {A:bL} (h:A.guards=some []):(A.under (.builtin "type.__call__" ⟨.ref C::us,kw⟩)).guards=some []:=by first|exact h|simp[Around.under,Code.guards,Code.isGuard,guardIds,pushGuards,h]
def eS.make {A}(r:eS (k+1) A) (C:aq) (us:Aad) (kw:List (Str×ai)):eS k (A.under (.builtin "type.__call__" ⟨.ref C::us,kw⟩)):=⟨r.hd,by have:=r.dp;rw[Bw];omega,by have:=r.un;rw[Bx];omega,zk r.gd⟩
def eS.depth {A}(r:eS k A):A.depth<recursionLimit:=by have:=r.dp;omega
def eS.units {A}(r:eS k A):A.units+64<cLine:=by have:=r.un;omega
def gk:TA:=λ_ H Q=>Q [] H
def dF (ta:TE) (tr:TA):TA:=λU H Q=>ta U H λx H1=>tr U H1 λxs H2=>Q (x::xs) H2
section
variable {e:Expr}{es:List Expr}{te:TE}{t:TA}{pos:Pos}
def aj:PA X [] gk:=λ_ _ _ _ H Q I h=>Calls.spliced_nil ⟨[],H,I,.nil,h⟩
def ae (ha:PE X e te) (hr:PA X es t) (hs:starEach (e::es) X.env=(false,eval e X.env)::starEach es X.env:=by rfl):PA X (e::es) (dF te t):=by intro pos ac s U H Q I h;rw[hs];show wpAny _ _ (spliced ((false,eval e X.env)::backTo pos (starEach es X.env))) _ _ s;refine Gq (dq (ha ac s U H _ I h) λu s1 ⟨x,H1,I1,r1,q1⟩=>?_);exact dq (hr pos ac s1 U H1 _ I1 q1) λus s2 ⟨xs,H2,I2,r2,q2⟩=>⟨x::xs,H2,I2,.cons r1 r2,q2⟩
def aat (t:TA):TE:=λU H Q=>t U H λxs H1=>xs.length<=sizeLine/\∀p,H1 p=none->Q (.ref p) (upd H1 p (.tup xs))
def aau (t:TA):TE:=λU H Q=>t U H λxs H1=>xs.length<=sizeLine/\∀p,H1 p=none->Q (.ref p) (upd H1 p (.lst xs))
def uz {x1}(h:PA X es t):PE X (.Tuple es x1 pos) (aat t):=by intro ac s U H Q I hq;refine wpAny_Tuple_spliced (dq (h pos ac s U H _ I hq) λus s1 ⟨xs,H1,I1,r,z,q⟩=>⟨by rw[<-r.length];exact z,?_⟩);have hf:H1 s1.heap.objs.size=none:=I1.dh.fresh (ao _);refine⟨.ref s1.heap.objs.size,upd H1 s1.heap.objs.size (.tup xs),I1.laid (t':=s1.toks) (λb u e=>af _ e) (ao _) ?_,rfl,q _ hf⟩;exact⟨z,us,r,⟨_,av _ rfl,rfl,rfl,_,rfl⟩⟩
def xH (h:PA X es t):PE X (.List es pos) (aau t):=by intro ac s U H Q I hq;refine wpAny_List_spliced (dq (h pos ac s U H _ I hq) λus s1 ⟨xs,H1,I1,r,z,q⟩=>⟨by rw[<-r.length];exact z,?_⟩);have hf:H1 s1.heap.objs.size=none:=I1.dh.fresh (ao _);refine⟨.ref s1.heap.objs.size,upd H1 s1.heap.objs.size (.lst xs),I1.laid (t':=s1.toks) (λb u e=>af _ e) (ao _) ?_,rfl,q _ hf⟩;exact⟨z,us,0,r,av _ rfl⟩
end
abbrev Sp:=Aac->Hp->VK->XK->Prop
abbrev CY:=List Env->Hp->ar->XK->ai->ar->Prop
structure uA (P:aQ) (w:bg) (K:Φ) (mg:Aae) (base:Heap) (A:bL) (outer:List Env) (s:ar) (H:Hp):Prop where
 frames:A.frames=some outer
 mod:Mod K mg base
 bs:∀b o,base.get? b=some o->s.heap.get? b=some o/\H b=none
 CM:base.objs.size<=s.heap.objs.size
 lY:s.heap.FunFrames base outer
 Ez:∀b∈nV outer,H b=none
 dh:nU P w H s.heap
 bare:AllBare s.gens
def CE (outer:List Env) (P:aQ) (w:bg) (H:Hp) (s:ar) (Q:VK) (u:ai) (s':ar):Prop:=∃v H',s'.os=s.os/\AllBare s'.gens/\Un (nV outer) [] H H' s.heap s'.heap/\nU P w H' s'.heap/\RelV v u/\Q v H'
def CR (CX:CY) (outer:List Env) (P:aQ) (w:bg) (H:Hp) (s:ar) (Q:VK) (E:XK) (r:Result) (s':ar):Prop:=match r with
 | .ok (.ret u)=>CE outer P w H s Q u s'
 | .ok _=>False
 | .error e=>CX outer H s E e s'
structure cG (P:aQ) (w:bg) (K:Φ) (mg:Aae) (base:Heap) (CX:CY) (k:Nat) (f:aq) (fd:FuncData) (ps:Aab) (sp:Sp):Prop where
 len:∀vs H Q E,sp vs H Q E->vs.length=ps.length
 run:∀(A:bL) (outer:List Env) (s:ar) (H:Hp) (args:Args) (us:Aad) (vs:Aac) (Q:VK) (E:XK),eS k A->uA P w K mg base A outer s H->BindsTo s fd args (ps.zip us)->cx vs us->sp vs H Q E-> codeAny (model P w) A (.call (.ref f) args) (CR CX outer P w H s Q E) s
def cG.imp {P:aQ}{w:bg}{K:Φ}{mg:Aae}{base:Heap}{CX:CY}{k:Nat}{f:aq}{fd:FuncData}{ps:Aab}{sp ZJ:Sp}(F:cG P w K mg base CX k f fd ps sp) (h:∀vs H Q E,ZJ vs H Q E->sp vs H Q E):cG P w K mg base CX k f fd ps ZJ:=⟨λvs H Q E q=>F.len vs H Q E (h _ _ _ _ q),λA outer s H args us vs Q E hr he hb hv hs=>F.run A outer s H args us vs Q E hr he hb hv (h _ _ _ _ hs)⟩
def uA.make {P}{H}{A}{s}{K:Φ} (e:uA P w K mg base A outer s H) (C:aq) (us:Aad) (kw:List (Str×ai)):
  uA P w K mg base (A.under (.builtin "type.__call__" ⟨.ref C::us,kw⟩)) outer s H:=⟨by first|exact e.frames|(simpa[Around.under,Code.envs,Code.isFrame,pushEnvs] using e.frames),e.mod,e.bs,e.CM,e.lY,e.Ez,e.dh,e.bare⟩
def uA.in1 {P}{H}{A}{s}{K:Φ} (e:uA P w K mg base A outer s H):
  uA P w K mg base A.in1 outer s H:=⟨e.frames,e.mod,e.bs,e.CM,e.lY,e.Ez,e.dh,e.bare⟩
section
variable {s s':ar}
def Inv.EG (I:Inv X ac U H s):uA X.prog X.w X.K X.mg X.base X.A X.stack s H:=⟨I.ok.frames,I.ok.mod,I.bs,aB I.ok.CM I.sz,I.stack,I.xF,I.dh,I.bare⟩
def Inv.after {Q:VK}{u:ai}(I:Inv X ac U H s) (h:CE X.stack X.prog X.w H s Q u s'):EP X ac U Q u s':=by obtain⟨v,H',os,bare,un,dh,r,q⟩:=h;obtain⟨hh,g,d,t,os'⟩:=s';obtain rfl:os'=s.os:=os;exact⟨v,H',I.call (h':=hh) (g':=g) (d':=d) (t':=t) (ch:=[]) un dh bare (λb z=>absurd z ς),r,q⟩
end
def CZ (sp:Sp) (t_:Aac) (E:XK) (t:TA):TE:=λU H Q=>t U H λvs H1=>sp (vs++t_) H1 Q E
def VB (C:aq) (sp:Sp) (t_:Aac) (E:XK) (t:TA):TE:=λU H Q=>t U H λvs H1=>∀x dx,H1 x=none->H1 dx=none->dx≠x-> sp (.ref x::(vs++t_)) (upd (upd H1 dx (.own x)) x (.ins C dx [])) (λv H2=>v=.e_/\Q (.ref x) H2) E
def Binds (K:Φ) (fd:FuncData) (ps:Aab) (ds:Aad):Prop:=∀(s:ar) (us:Aad),K.In s.heap->(us++ds).length=ps.length->BindsTo s fd ⟨us,[]⟩ (ps.zip (us++ds))
def Binds.all {K:Φ}{fd:FuncData}{ps:Aab}(h:∀us:Aad,us.length=ps.length->bindArgs fd ⟨us,[]⟩=pure (ps.zip us)):Binds K fd ps []:=λs us _ hl=>by rw[dU] at hl⊢;exact .of_eq (h us hl)
def ng (CX:CY) (X:Cx) (E:XK):Prop:=∀(ac:Aaa) (U:St) (H:Hp) (s:ar) (e:ai) (s':ar),Inv X ac U H s->CX X.stack H s E e s'->X.xe e s'
section
variable {CX:CY}{k:Nat}{f C:aq}{fd:FuncData}{ps:Aab}{sp:Sp}{t_:Aac}{ds:Aad}{E:XK}{x m:Str}{p pos apos:Pos}{e o:Expr}{es:List Expr}{ta:TE}{t:TA}
def xI {ac:Aaa}{U:St}{H:Hp}{s:ar}{Q:VK}{us:Aad}{vs:Aac}(F:cG X.prog X.w X.K X.mg X.base CX k f fd ps sp) (hr:eS k X.A) (hb:Binds X.K fd ps ds) (hd:cx t_ ds) (hx:ng CX X E) (I:Inv X ac U H s) (r:cx vs us) (h:sp (vs++t_) H Q E):wpAny (model X.prog X.w) X.A (call (.ref f) us) (EP X ac U Q) X.xe s:=by
 have r2:cx (vs++t_) (us++ds):=r.append hd;have hl:(us++ds).length=ps.length:=by rw[<-r2.length];exact F.len _ _ _ _ h
 refine m7 (iM (F.run X.A X.stack s H ⟨us,[]⟩ (us++ds) (vs++t_) Q E hr I.EG (hb s us I.pJ hl) r2 h) λr s' hq=>?_);cases r with
 |error e=>exact hx ac U H s e s' I hq
 |ok fl=>
  cases fl with
  |ret u=>exact I.after hq
  |next=>exact False.elim hq
  |brk=>exact False.elim hq
  |cont=>exact False.elim hq
def C0 (F:cG X.prog X.w X.K X.mg X.base CX k f fd ps sp) (hr:eS k X.A) (hg:Gl X x) (hm:X.mg x=some (.ref f)) (hk:PySem.W.keepIn X.K (.ref f)=true) (hb:Binds X.K fd ps ds) (hd:cx t_ ds) (hx:ng CX X E) (ha:PA X (e::es) t) (s_:(x==("__debug__":Str))=false:=by decide) (he:starEach (e::es) X.env=(false,eval e X.env)::starEach es X.env:=by rfl) (sC:(backTo pos (starEach es X.env)).any (·.1)=false:=by rfl):
  PE X (.Call (.Name x p) (e::es) [] pos) (CZ sp t_ E t):=by
 intro ac s U H Q I h;refine eX (lZ I hg hm ?_ s_);refine oz (h₀:=X.base) I.ok.mod.sk hk (dq (ha pos ac s U H _ I h) λus s1 ⟨vs,H1,I1,r,q⟩=>⟨I1.pJ,?_⟩) he sC;exact xI F hr hb hd hx I1 r q
structure Mk (K:Φ) (C f:aq):Prop where
 makes:PySem.W.makesIn K C=true
 init:PySem.W.findIn K (.ref C) "__init__"=some (some (.ref f))
 fn:PySem.W.isFn K (.ref f)=true
 kp:PySem.W.keepIn K (.ref C)=true
def G4 {U}{H}{s}(M:Mk X.K C f) (F:cG X.prog X.w X.K X.mg X.base CX k f fd ps sp) (hr:eS (k+1) X.A) (hb:Binds X.K fd ps ds) (hd:cx t_ ds) (hx:ng CX X E) (I:Inv X ac U H s) (r:cx vs us) (h:∀x dx,H x=none->H dx=none->dx≠x->sp (.ref x::(vs++t_)) (upd (upd H dx (.own x)) x (.ins C dx [])) (λv H2=>v=.e_/\Q (.ref x) H2) E):
  wpAny (model X.prog X.w) X.A (call (.ref C) us) (EP X ac U Q) X.xe s:=by
 have hq:=h (s.heap.objs.size+1) s.heap.objs.size (I.dh.fresh (dg _)) (I.dh.fresh (ao _)) (aW (c_ _));have I2:=Inv.made (C:=C) I;have r2:cx (V.ref (s.heap.objs.size+1)::(vs++t_)) (Value.ref (s.heap.objs.size+1)::(us++ds)):=.cons rfl (r.append hd);have hl:(Value.ref (s.heap.objs.size+1)::us++ds).length=ps.length:=by have e:=r2.length;rw[F.len _ _ _ _ hq] at e;exact e.symm
 refine m7 (G0 (f:=f) I.pJ M.makes M.init (k_.mp M.fn) (iM (F.run _ X.stack _ _ ⟨Value.ref (s.heap.objs.size+1)::us,[]⟩ (Value.ref (s.heap.objs.size+1)::(us++ds)) _ _ E (hr.make C us []) (I2.EG.make C us []) (hb _ (Value.ref (s.heap.objs.size+1)::us) I2.pJ hl) r2 hq) λr s' VC=>?_));cases r with
 |error e=>exact hx ac U _ _ e s' I2 VC
 |ok fl=>
  cases fl with
  |ret u=>obtain⟨v,H',I3,rv,ev,q3⟩:=I2.after VC;subst ev;exact⟨rv,⟨V.ref (s.heap.objs.size+1),H',I3,rfl,q3⟩⟩
  |next=>exact False.elim VC
  |brk=>exact False.elim VC
  |cont=>exact False.elim VC
def G5 (M:Mk X.K C f) (F:cG X.prog X.w X.K X.mg X.base CX k f fd ps sp) (hr:eS (k+1) X.A) (hg:Gl X x) (hm:X.mg x=some (.ref C)) (hb:Binds X.K fd ps ds) (hd:cx t_ ds) (hx:ng CX X E) (s_:(x==("__debug__":Str))=false:=by decide):PE X (.Call (.Name x p) [] [] pos) (VB C sp t_ E gk):=by intro ac s U H Q I h;refine eX (lZ I hg hm ?_ s_);exact PySem.W.callWith_K0 I.pJ M.kp (G4 (us:=[]) M F hr hb hd hx I .nil h)
end
def PK (X:Cx) (VD:List Keyword) (t:TA):Prop:=∀(pos:Pos) (ac:Aaa) (s:ar) (U:St) (H:Hp) (Q:Aac->Hp->Prop),Inv X ac U H s->t U H Q->wpAny (model X.prog X.w) X.A (evalAll ((backToKw pos (keywordEach VD X.env)).map (·.2))) (AP X ac U Q) X.xe s
section
variable {CX:CY}{k:Nat}{f C:aq}{fd:FuncData}{ps ks:Aab}{sp:Sp}{E:XK}{x m:Str}{p pos apos G6:Pos}{e o:Expr}{es:List Expr}{VD:List Keyword}{te ta:TE}{t tk:TA}{nm:Option Str}
def Qv:PK X [] gk:=λ_ _ _ _ H Q I h=>wpAny_evalAll_nil ⟨[],H,I,.nil,h⟩
def K5 (ha:PE X e te) (hr:PK X VD t):PK X (⟨nm,e,G6⟩::VD) (dF te t):=by intro pos ac s U H Q I h;show wpAny _ _ (evalAll ((do let v<-eval e X.env;standAt pos;pure v)::(backToKw pos (keywordEach VD X.env)).map (·.2))) _ _ s;refine Gr (aa (dq (ha ac s U H _ I h) λu s1 ⟨x,H1,I1,r1,q1⟩=>aa (dP (au ?_))));exact dq (hr pos ac s1 U H1 _ I1 q1) λus s2 ⟨xs,H2,I2,r2,q2⟩=>⟨x::xs,H2,I2,.cons r1 r2,q2⟩
variable {g:Aad->Aad->Aad}{gV:Aac->Aac->Aac}
end
structure bx (N P:Aab) (sc:Scope):Prop where
 kind:sc.kind=.function:=by rfl
 co:sc.isCoroutine=false:=by rfl
 gen:sc.isGenerator=false:=by rfl
 nd:N.Nodup:=by decide+kernel
 pre:N.take P.length=P:=by rfl
 par:∀x∈P,sc.names.lookup x=some .local\/sc.names.lookup x=some .cell:=by decide+kernel
 Qw:∀y∈sc.names,y.2≠.free:=by decide+kernel
def wy {kindOf:Str->Option NameKind}:∀{binds:List (Str×ai)}{m:Aae},(∀v,(x,v)∉binds)->bindL kindOf binds m x=m x
 | [],_,_=>rfl
 |(n,v)::r,m,h=>by
  unfold bindL;rw[wy λw hw=>h w (bJ _ hw)];split
  .have:x≠n:=by rintro rfl;exact h v bT
   simp[this]
  .rfl
def wz {kindOf:Str->Option NameKind}:∀{binds:List (Str×ai)}{m:Aae},(∀v,(x,v)∉binds)->bindC kindOf binds m x=m x
 | [],_,_=>rfl
 |(n,v)::r,m,h=>by
  unfold bindC;rw[wz λw hw=>h w (bJ _ hw)];split
  .rfl
  .have:x≠n:=by rintro rfl;exact h v bT
   simp[this]
def wB {kindOf:Str->Option NameKind}:∀{P:Aab}{vs:Aad}{i:Nat}{m:Aae},P.Nodup->P[i]?=some x->vs[i]?=some v->kindOf x=some .local-> bindL kindOf (P.zip vs) m x=some v
 | [],_,_,_,_,h,_,_=>by simp at h
 |_::_,[],_,_,_,_,h,_=>by simp at h
 |p::P,w::vs,0,m,nd,h1,h2,hk=>by simp at h1 h2;subst h1;subst h2;show bindL kindOf ((p,w)::P.zip vs) m p=_;unfold bindL;rw[wy λv hv=>(hJ.mp nd).1 (tS hv).1,aJ hk];simp
 |p::P,w::vs,i+1,m,nd,h1,h2,hk=>by show bindL kindOf ((p,w)::P.zip vs) m x=_;unfold bindL;exact wB (i:=i) (hJ.mp nd).2 (by simpa using h1) (by simpa using h2) hk
def wC {kindOf:Str->Option NameKind}:∀{P:Aab}{vs:Aad}{i:Nat}{m:Aae},P.Nodup->P[i]?=some x->vs[i]?=some v->kindOf x≠some .local-> bindC kindOf (P.zip vs) m x=some v
 | [],_,_,_,_,h,_,_=>by simp at h
 |_::_,[],_,_,_,_,h,_=>by simp at h
 |p::P,w::vs,0,m,nd,h1,h2,hk=>by simp at h1 h2;subst h1;subst h2;show bindC kindOf ((p,w)::P.zip vs) m p=_;unfold bindC;rw[wz λv hv=>(hJ.mp nd).1 (tS hv).1,aI hk];simp
 |p::P,w::vs,i+1,m,nd,h1,h2,hk=>by show bindC kindOf ((p,w)::P.zip vs) m x=_;unfold bindC;exact wC (i:=i) (hJ.mp nd).2 (by simpa using h1) (by simpa using h2) hk
def start (N:Aab) (vs:Aac):St:=vs.map some++List.replicate (N.length-vs.length) none
def jC (CX:CY) (P:aQ) (w:bg) (K:Φ) (mg:Aae) (base:Heap) (N:Aab) (qual:Str) (scope:Scope) (f:aq) (cd:ai) (A:bL) (outer:List Env) (s:ar) (H:Hp) (E:XK):Cx where
 prog:=P
 w:=w
 K:=K
 mg:=mg
 base:=base
 A:=A.deeper (envOfC qual scope s.heap.objs.size f cd)
 N:=N
 iO:=s
 y_:=H
 env:=envOfC qual scope s.heap.objs.size f cd
 outer:=outer
 stack:=envOfC qual scope s.heap.objs.size f cd::outer
 ex:=[]
 calm:=true
 fn:=λ_=>true
 pn:=[]
 xe:=λe s'=>wpAny (model P w) (A.deeper (envOfC qual scope s.heap.objs.size f cd)) (leaving (envOfC qual scope s.heap.objs.size f cd) e) (λ_ Qx=>CX outer H s E e Qx) (λe' Qx=>CX outer H s E e' Qx) s'
def zm {sc:Scope} (h:sc.names.lookup x=some .cell):∃c,(cellsFrom n sc.names []).lookup x=some c:=by have q:=sW sc.names n [] (.inl h);exact PJ.mp q
def wD {P}{H}{A}{E}{s}{K:Φ}(S:bx N ps scope) (hd:A.handled=none) (e0:uA P w K mg base A outer s H) (hl:vs.length=ps.length) (r:cx vs us) (x:InCallC s s.heap.objs.size (bindL (envOfC qual scope s.heap.objs.size f cd).kindOf (ps.zip us) λ_=>none) (cellsFrom (s.heap.objs.size+1) scope.names []) (bindC (envOfC qual scope s.heap.objs.size f cd).kindOf (ps.zip us) λ_=>none) s1):
  Inv (jC CX P w K mg base N qual scope f cd A outer s H E) [] (start N vs) H s1:=by
 have sC:ps.length<=N.length:=by have:=dA List.length S.pre;rw[b_] at this;omega
 obtain⟨h1,tk,rfl,hk⟩:=x.done;have K6:∀b:aq,b∉(jC CX P w K mg base N qual scope f cd A outer s H E).ex:=λb z=>absurd (show b∈([]:List aq) from z) ς;refine⟨⟨e0.mod,S.kind,rfl,rfl,ao _,λy z c h1 h2=>?_,λy hy=>?_,λy c _ h=>?_,λ_=>hd,Around.frames_deeper e0.frames,.inr ⟨rfl,rfl⟩,λb z=>absurd z (K6 b),e0.bs,e0.CM,λb _ _=>K6 b,λb z=>absurd z (K6 b),e0.lY,e0.Ez⟩,
  rfl,e0.bare,Un.kept hk,⟨_,x.toInCall.ns,λi y v h1 h2 h3=>?_⟩,λy c h=>⟨_,x.cell y c h⟩,e0.dh.fresh (ao _),λy c h=>?_,λp hp=>absurd (show p∈([]:Aaa) from hp) ς,e0.dh.kept hk,?_⟩
 .exact name_of_addr x.apart (eI h1) (eI h2)
 .have hy:scope.names.lookup y=some .cell\/scope.names.lookup y=some .free:=hy;rcases hy with hy|hy
  .exact zm hy
  .exact absurd rfl (S.Qw _ (eI hy))
 .exact d7 (x.above y c (eI h))
 .have hi:i<vs.length:=by
   unfold start at h2;by_cases hi:i<vs.length
   .exact hi
   .rw[dB (by simpa using hi)] at h2;rw[List.getElem?_replicate] at h2;split at h2<;>cases h2
  have ha:vs[i]?=some v:=by
   unfold start at h2;rw[fq (by simpa using hi),aR] at h2;cases e:vs[i]? with
   |none=>rw[e] at h2;cases h2
   |some a=>rw[e] at h2;cases h2;rfl
  obtain⟨u,hu,rv⟩:=r.get ha;have hp:ps[i]?=some y:=by rw[<-S.pre,List.getElem?_take_of_lt ω];exact h1
  have ndP:ps.Nodup:=by rw[<-S.pre];exact S.nd.sublist (A5 _ _)
  refine⟨u,rv,?_⟩;rcases S.par y (aY hp) with k|k
  .exact .inl ⟨k,wB ndP hp hu k⟩
  .obtain⟨c,e⟩:=zm (n:=s.heap.objs.size+1) k;refine .inr ⟨.inl k,c,e,?_⟩;have q:=x.cell y c e;rw[wC ndP hp hu (by show scope.names.lookup y≠_;rw[k];decide)] at q;exact q
 .exact e0.dh.fresh (d7 (x.above y c (eI h)))
 .unfold start;show _=N.length;rw[aA,ah,List.length_replicate];omega
def C3 {CX:CY}{P:aQ}{w:bg}{K:Φ}{mg:Aae}{base:Heap}{k:Nat}{f:aq}{name qual:Str}{params:Arguments}{body:List Stmt}{scope:Scope}{dV kV doc pm eU ct oc:ai}{an od:Option aq}{qy:Array (Option ai)} {N ps:Aab} {sp:Sp} (lk:K.lookup f=some ⟨oc,od,.func (PySem.W.fnOf name qual params body scope dV kV doc pm an eU ct),qy⟩) (mX:PySem.W.codeIn K eU qual=true) (S:bx N ps scope) (len:∀vs H Q E,sp vs H Q E->vs.length=ps.length) (iS:∀(A:bL) (outer:List Env) (s:ar) (H:Hp) (vs:Aac) (Q:VK) (E:XK),eS k (A.deeper (envOfC qual scope s.heap.objs.size f eU))->sp vs H Q E-> ∃t,su (jC CX P w K mg base N qual scope f eU A outer s H E) body t/\t {nx:=λ_ H'=>Q .e_ H',rt:=Q} (start N vs) H):
  cG P w K mg base CX (k+1) f (PySem.W.fnOf name qual params body scope dV kV doc pm an eU ct) ps sp:=by
 refine⟨len,λA outer s H args us vs Q E hr e0 hb r C4=>?_⟩;have hl:=len _ _ _ _ C4;have KX:K.In s.heap:=e0.mod.sk.keeps λb o e=>(e0.bs b o e).1;have lim:s.heap.NoLimit:=e0.mod.nolimit.keeps λb o e=>(e0.bs b o e).1;have G7:∀y∈ps.zip us,scope.names.lookup y.1=some .local\/(scope.names.lookup y.1=some .cell/\((cellsFrom (s.heap.objs.size+1) scope.names []).lookup y.1).isSome=true):=λ⟨n,v⟩ hy=>by
  rcases S.par n (tS hy).1 with q|q
  .exact .inl q
  .exact .inr ⟨q,sW _ _ _ (.inl q)⟩
 refine codeAny_call_function hr.depth (KX _ _ lk) rfl S.co S.gen rfl (PySem.W.codeRec_of KX mX) (hb _ _ _ _ ?_);refine wpAny_newFunctionEnv_cells S.kind G7 λenv he s1 x=>?_;subst he;refine⟨lim.keeps x.toInCall.keep,codeAny_func ?_⟩;obtain⟨t,ht,hq⟩:=iS A outer s H vs Q E (hr.deeper _) C4;have I:Inv (jC CX P w K mg base N qual scope f eU A outer s H E) [] (start N vs) H s1:=wD S hr.hd e0 hl r x;refine aN (ht [] s1 (start N vs) H _ I hq) (λfl s' hs=>?_) λe s' hs=>hs;have fin:∀{de:St} {H':Hp} {v:V} {u:ai},Inv (jC CX P w K mg base N qual scope f eU A outer s H E) [] de H' s'->RelV v u->Q v H'->CE outer P w H s Q u s':=λ{de H' v u} J rv q=>⟨v,H',J.os,J.bare,J.base,J.dh,rv,q⟩;cases fl with
 |ret u=>obtain⟨v,de,H',J,rv,q⟩:=hs;exact fin J rv q
 |next=>obtain⟨de,H',J,q⟩:=hs;exact fin (v:=V.e_) (u:=Value.none) J rfl q
 |brk=>obtain⟨_,_,_,q⟩:=hs;exact False.elim q
 |cont=>obtain⟨_,_,_,q⟩:=hs;exact False.elim q
section
variable {x:Str}{p pos:Pos}{e:Expr}{es:List Expr}{t:TA}{id T:String}{r:Aac->Hp->VK->Prop}
def VE (r:Aac->Hp->VK->Prop) (t:TA):TE:=λU H Q=>t U H λvs H1=>r vs H1 Q
def bj (hc:dR X (.builtin id) r) (hg:Gl X x) (hm:X.mg x=none) (hv:bootBuiltins x=some (.builtin id)) (ha:PA X (e::es) t) (hn:x≠"__name__":=by decide) (s_:(x==("__debug__":Str))=false:=by decide) (he:starEach (e::es) X.env=(false,eval e X.env)::starEach es X.env:=by rfl) (sC:(backTo pos (starEach es X.env)).any (·.1)=false:=by rfl):PE X (.Call (.Name x p) (e::es) [] pos) (VE r t):=by intro ac s U H Q I h;refine eX (kQ I hg hm hv ?_ hn s_);exact PyProof.Rows.callWith_builtin1 (dq (ha pos ac s U H _ I h) λus s1 ⟨vs,H1,I1,r1,q1⟩=>hc ac s1 U H1 vs us Q I1 r1 q1) he sC
def dO (hc:dR X (.type T) r) (hg:Gl X x) (hm:X.mg x=none) (hv:bootBuiltins x=some (.type T)) (ha:PA X (e::es) t) (hn:x≠"__name__":=by decide) (s_:(x==("__debug__":Str))=false:=by decide) (he:starEach (e::es) X.env=(false,eval e X.env)::starEach es X.env:=by rfl) (sC:(backTo pos (starEach es X.env)).any (·.1)=false:=by rfl):PE X (.Call (.Name x p) (e::es) [] pos) (VE r t):=by intro ac s U H Q I h;refine eX (kQ I hg hm hv ?_ hn s_);exact fP (dq (ha pos ac s U H _ I h) λus s1 ⟨vs,H1,I1,r1,q1⟩=>hc ac s1 U H1 vs us Q I1 r1 q1) he sC
end
section
open PySem.SeqAt
open AutoSeq1 (wpAny_loadPart')
open PySem.MeetsSeq PySem.MeetsSeq2 PySem.MeetsSeq3
end
def K7 {t b:aq}{vs ws:Aad}{Q:Aaf}(ht:IsTup s.heap t vs.toArray) (hb:IsTup s.heap b ws.toArray) (hv:vs≠[]) (h1:ws=[]->Q (.ref t) s) (h2:ws≠[]->Q (.ref s.heap.objs.size) {s with heap:=s.heap.push {cls:=.type "tuple",data:=.seq (vs++ws).toArray}}) (hsz:vs.length+ws.length<=sizeLine):wpAny (model prog w) A (binaryOp .Add (.ref t) (.ref b)) Q E s:=by
 obtain⟨⟨cls,dd,data,sl⟩,ho,hc,n,hd⟩:=id ht;obtain⟨⟨Qy,A0,data2,qz⟩,By,G8,n2,hd2⟩:=id hb;simp only at hc hd G8 hd2;subst hc hd G8 hd2;have e:vs.toArray++ws.toArray=(vs++ws).toArray:=ς;by_cases hw:ws=[]
 .exact Kx ⟨_,ho,rfl⟩ ⟨_,By,rfl⟩ PL seq_tuple_add sX rh (qe _ _) (tuple_addW1 t b vs.toArray ws.toArray n n2 dd A0 sl qz (by simpa using hv) (by simp[hw])) ⟨ho,By,h1 hw⟩
 .refine Kx ⟨_,ho,rfl⟩ ⟨_,By,rfl⟩ PL seq_tuple_add sX rh (qe _ _) (tuple_addW2 t b vs.toArray ws.toArray n n2 dd A0 sl qz (by simpa using hv) (by simpa using hw) (by rw[aC,aC];exact hsz)) ⟨ho,By,?_⟩;rw[e];exact h2 hw
def gF (n d:Nat):Option Int->Nat
 |none=>d
 |some v=>if v<0 then(v+(n:Int)).toNat else min v.toNat n
def jD (n d:Nat):gF n d none=d:=rfl
def ju (n d k:Nat):gF n d (some (k:Int))=min k n:=by show(if(k:Int)<0 then((k:Int)+(n:Int)).toNat else min (k:Int).toNat n)=min k n;rw[aI ω,A6]
def Qz (n d:Nat) (hd:d<=n) (o:Option Int):gF n d o<=n:=by
 cases o with
 |none=>exact hd
 |some v=>
  show(if v<0 then(v+(n:Int)).toNat else min v.toNat n)<=n;by_cases hv:v<0
  .rw[aJ hv];omega
  .rw[aI hv];exact rj _ _
def VF (m n:Nat):min (m:Int) (n:Int)=((min m n:Nat):Int):=by
 rw[Int.min_def,Nat.min_def];split<;>rename_i h
 .rw[aJ (A7.mp h)]
 .rw[aI (λz=>h (A7.mpr z))]
def C5 (v:Int) (n d:Nat):(if v<0 then max (v+(n:Int)) 0 else min v (n:Int))=((gF n d (some v):Nat):Int):=by
 show(if v<0 then max (v+(n:Int)) 0 else min v (n:Int))=(((if v<0 then(v+(n:Int)).toNat else min v.toNat n):Nat):Int);by_cases hv:v<0
 .rw[aJ hv,aJ hv];exact(Int.ofNat_toNat _).symm
 .rw[aI hv,aI hv];obtain⟨k,rfl⟩:=Uk (Int.not_lt.mp hv);exact VF k n
def Oy (i:Int) (n:Nat):max 0 (min (if i<0 then i+ ↑n else i) ↑n)=(((if i<0 then(i+ ↑n).toNat else min i.toNat n):Nat):Int):=by
 by_cases h:i<0
 .rw[aJ h,aJ h,Int.min_eq_left (Int.add_le_of_le_sub_right (by rw[Int.sub_self];exact ky h)),Int.max_comm];exact(Int.ofNat_toNat _).symm
 .rw[aI h,aI h];obtain⟨k,rfl⟩:=Uk (Int.not_lt.mp h);rw[VF,Int.max_eq_right (Int.natCast_nonneg _)];rfl
def Bz (lo hi:Option Int) (n:Nat):Builtin.Slice.sliceAdjust lo hi 1 (n:Int)=(((gF n 0 lo:Nat):Int),((gF n n hi:Nat):Int)):=by
 have h1:¬((1:Int)<0):=ω;unfold Builtin.Slice.sliceAdjust;simp only[h1,hV];refine vH ?_ ?_
 .cases lo with
  |none=>rfl
  |some v=>exact C5 v n 0
 .cases hi with
  |none=>rfl
  |some v=>exact C5 v n n
def BA (i j:Nat):Builtin.Slice.slicePlaces (i:Int) (j:Int) 1=j-i:=by unfold Builtin.Slice.slicePlaces;have h1:(1:Int)>0:=ω;simp only[h1,jg,Int.ediv_one];split<;>omega
def uB (p:IsPart v o) (h:Q o s):wpAny (model prog w) A (Builtin.Slice.slicePartIndex v) Q E s:=by
 cases p with
 |none=>exact slicePart_none h
 |int i t=>exact slicePart_int h
def lC {lo hi:Option Int}{n:Nat}(hs:s.heap.IsSliceOf sl vl vu .none) (pl:IsPart vl lo) (pu:IsPart vu hi) (h:Q (((gF n 0 lo:Nat):Int),1,gF n n hi-gF n 0 lo) s):wpAny (model prog w) A (Builtin.Slice.sliceApplied (.ref sl) (pure (n:Int))) Q E s:=by obtain⟨os,QA,K8,VG⟩:=id hs;unfold Builtin.Slice.sliceApplied Builtin.Slice.sliceFields;refine aa (aa (dW QA VG (x:=vl) rfl (aa (dW QA VG (x:=vu) rfl (aa (dW QA VG (x:=.none) rfl (au ?_)))))));refine aa (slicePart_none ?_);show wpAny _ _ (if((1:Int)==0)=true then _ else _) _ _ s;rw[aI δ];refine aa (uB pl (aa (uB pu (aa (au ?_)))));show wpAny _ _ (match Builtin.Slice.sliceAdjust lo hi 1 (n:Int) with|(lo,hi)=>pure (lo,(1:Int),Builtin.Slice.slicePlaces lo hi 1)) _ _ s;rw[Bz lo hi n];show wpAny _ _ (pure (((gF n 0 lo:Nat):Int),(1:Int),Builtin.Slice.slicePlaces ((gF n 0 lo:Nat):Int) ((gF n n hi:Nat):Int) 1)) _ _ s;rw[BA];exact au h
def G9 (xs:Array ai) (i k:Nat):((List.range k).filterMap λ(m:Nat)=>xs[((i:Int)+(m:Int)*1).toNat]?).toArray=((xs.toList.drop i).take k).toArray:=by
 have e:(λ(m:Nat)=>xs[((i:Int)+(m:Int)*1).toNat]?)=λm=>xs[i+m]?:=by funext m;rw[Int.mul_one,show((i:Int)+(m:Int)).toNat=i+m from rfl]
 rw[e];have:=pick_run xs i k;rw[List.filterMap_map] at this;have e2:((λx=>xs[x]?)∘λx=>i+x)=λm=>xs[i+m]?:=rfl;rw[e2] at this;rw[this]
def qA {lo hi:Option Int}(ht:IsTup s.heap t items) (hs:s.heap.IsSliceOf sl vl vu .none) (pl:IsPart vl lo) (pu:IsPart vu hi) (hw:¬(gF items.size 0 lo=0/\gF items.size items.size hi=items.size)) (h:Q (.ref s.heap.objs.size) {s with heap:=s.heap.push {cls:=.type "tuple",data:=.seq ((items.toList.drop (gF items.size 0 lo)).take (gF items.size items.size hi-gF items.size 0 lo)).toArray}}) (hsz:items.size<=sizeLine):wpAny (model prog w) A (getItem (.ref t) (.ref sl)) Q E s:=by
 have C6:sizeOk (.seq ((items.toList.drop (gF items.size 0 lo)).take (gF items.size items.size hi-gF items.size 0 lo)).toArray):=by show((items.toList.drop (gF items.size 0 lo)).take (gF items.size items.size hi-gF items.size 0 lo)).toArray.size<=sizeLine;rw[aC,b_,cK,eG];exact aB (rj _ _) (aB (Ky _ _) hsz)
 have hj:gF items.size items.size hi<=items.size:=Qz _ _ (ao _) hi;obtain⟨os,QA,K8,VG⟩:=id hs;have hTs:s.TypeIs (.ref sl) "slice":=⟨os,QA,K8⟩;unfold getItem;try with_reducible refine cf ?_
 first|refine aa (au ?_)|skip
 refine aa (wpAny_sequenceKey ht.typeIs δ ?_);refine aa (fU (name:=Str.ofString "__getitem__") ht.typeIs eh (hX eh ht.typeIs entry_tuple_getitem ?_ (args_tuple_getitem _ _)));show wpAny _ _ (Builtin.Tuple.tupleItemsOf (.ref t)>>=_) _ _ s;refine aa (tupleItemsOf_ ht ?_);refine aa (Kz hTs ?_);rw[aJ δ];refine aa (lC hs pl pu ?_);have QB:¬((((gF items.size 0 lo:Nat):Int)==0&&(1:Int)==1&&(gF items.size items.size hi-gF items.size 0 lo)==items.size)=true):=by intro q;rw[cA,cA] at q;have q1:((gF items.size 0 lo:Nat):Int)=0:=eq_of_beq q.1.1;have q2:gF items.size items.size hi-gF items.size 0 lo=items.size:=eq_of_beq q.2;have q0:=Int.ofNat.inj q1;exact hw ⟨q0,by rw[q0] at q2;exact q2⟩
 show wpAny _ _ (if(((gF items.size 0 lo:Nat):Int)==0&&(1:Int)==1&&(gF items.size items.size hi-gF items.size 0 lo)==items.size)=true then _ else _) _ _ s;rw[aI QB,G9];first
  |exact aa (m:=Builtin.Tuple.tupleExact _) (bS (au ⟨_,rfl,au h⟩) C6)
  |exact aa (m:=Builtin.Tuple.tupleExact _) (bS (aa (au (au ⟨_,rfl,au h⟩))) C6)
  |exact aa (aa (m:=Builtin.Tuple.tupleExact _) (bS (au (au ⟨_,rfl,au h⟩)) C6))
  |exact aa (aa (m:=Builtin.Tuple.tupleExact _) (bS (au ⟨_,rfl,au h⟩) C6))
abbrev TO:=St->Hp->(Option Int->Hp->Prop)->Prop
def PO (X:Cx) (e:Option Expr) (t:TO):Prop:=∀(ac:Aaa) (s:ar) (U:St) (H:Hp) (Q:Option Int->Hp->Prop),Inv X ac U H s->t U H Q-> wpAny (model X.prog X.w) X.A (evalPart e X.env) (λu s'=>∃o H',Inv X ac U H' s'/\IsPart u o/\Q o H') X.xe s
def K_:TO:=λ_ H Q=>Q none H
def VH (t:TE):TO:=λU H Q=>t U H λx H1=>∃i,x=.int i/\Q (some i) H1
section
variable {e:Expr}{te:TE}{lo hi:Option Expr}{tl th:TO}{pos p2:Pos}
def jv:PO X none K_:=by intro ac s U H Q I h;rw[evalPart_none];exact au ⟨none,H,I,.none,h⟩
def C7 (h:PE X e te):PO X (some e) (VH te):=by intro ac s U H Q I hw;rw[evalPart_some];refine dq (h ac s U H _ I hw) λu s1 ⟨x,H1,I1,r1,q1⟩=>?_;obtain⟨i,rfl,q⟩:=q1;obtain⟨t,rfl⟩:=r1;exact⟨some i,H1,I1,.int i t,q⟩
def Uy (X:Cx) (r:V->Option Int->Option Int->Hp->VK->Prop):Prop:=∀(ac:Aaa) (s:ar) (U:St) (H:Hp) (x:V) (v vl vu:ai) (lo hi:Option Int) (sl:aq) (Q:VK),Inv X ac U H s->RelV x v->s.heap.IsSliceOf sl vl vu .none->IsPart vl lo->IsPart vu hi->r x lo hi H Q-> ∃T id,typeLookup (.type T) "__getitem__"=pure (some (.builtin id))/\s.TypeIs v T/\wpAny (model X.prog X.w) X.A (getItem v (.ref sl)) (EP X ac U Q) X.xe s
def tSl (r:V->Option Int->Option Int->Hp->VK->Prop) (te:TE) (tl th:TO):TE:=λU H Q=>te U H λx H1=>tl U H1 λl H2=>th U H2 λu H3=>r x l u H3 Q
def gx {r:V->Option Int->Option Int->Hp->VK->Prop}(hr:Uy X r) (he:PE X e te) (hl:PO X lo tl) (hu:PO X hi th):PE X (.Subscript e (.Slice lo hi none p2) pos) (tSl r te tl th):=by intro ac s U H Q I h;refine Subscript_ (dq (he ac s U H _ I h) λv s1 ⟨x,H1,I1,r1,q1⟩=>?_);refine wpAny_Slice (dq (hl ac s1 U H1 _ I1 q1) λvl s2 ⟨l,H2,I2,pl,q2⟩=>dq (hu ac s2 U H2 _ I2 q2) λvu s3 ⟨u,H3,I3,pu,q3⟩=>?_);rw[evalPart_none];refine au ?_;have I4:Inv X ac U H3 {s3 with heap:=s3.heap.push {cls:=.type "slice",data:=.fields #[vl,vu,.none]}}:=I3.kept (t':=s3.toks) λb ob q=>af _ q;obtain⟨T,id,hT,ht,hg⟩:=hr ac {s3 with heap:=s3.heap.push {cls:=.type "slice",data:=.fields #[vl,vu,.none]}} U H3 x v vl vu l u s3.heap.objs.size Q I4 r1 (Heap.IsSliceOf.new ..) pl pu q3;show wpAny (model X.prog X.w) X.A (subscriptTail e (.Slice lo hi none p2) v (.ref s3.heap.objs.size)) (EP X ac U Q) X.xe {s3 with heap:=s3.heap.push {cls:=.type "slice",data:=.fields #[vl,vu,.none]}};exact tail_any (ops:=[.ref s3.heap.objs.size,v]) ht hT hg (by with_unfolding_all rfl)
def gO (xs:Aac) (lo hi:Option Int):Aac:=(xs.drop (gF xs.length 0 lo)).take (gF xs.length xs.length hi-gF xs.length 0 lo)
def sD (xs:Aac) (lo hi:Option Int):(gO xs lo hi).length<=xs.length:=by unfold gO;rw[b_,cK];exact aB (rj _ _) (Ky _ _)
def aav (K:Φ):V->Option Int->Option Int->Hp->VK->Prop:=λx lo hi H Q=>∃a xs,x=.ref a/\iY K H a xs/\ ¬(gF xs.length 0 lo=0/\gF xs.length xs.length hi=xs.length)/\∀p,H p=none->Q (.ref p) (upd H p (.tup (gO xs lo hi)))
def G_:Uy X (aav X.K):=by
 intro ac s U H x v vl vu lo hi sl Q I rx hs pl pu h;obtain⟨a,xs,rfl,hx,hw,q⟩:=h;cases rx;obtain⟨bV,r,ht,hz⟩:=I.tuple hx;have hlen:bV.toArray.size=xs.length:=by rw[aC];exact r.length.symm
 refine⟨"tuple",_,eh.lookup,ht.typeIs,?_⟩;refine qA ht hs pl pu (by rw[hlen];exact hw) ?_ (by rw[hlen];exact hz);rw[hlen];refine⟨.ref s.heap.objs.size,_,I.laid (t':=s.toks) (o:=.tup (gO xs lo hi)) (λb ob q=>af _ q) (ao _) ?_,rfl,q _ (I.dh.fresh (ao _))⟩;exact⟨aB (sD xs lo hi) hz,_,(r.drop (gF xs.length 0 lo)).take (gF xs.length xs.length hi-gF xs.length 0 lo),vO.new _ _⟩
def VI (K:Φ):R2:=λx y H Q=>∃a b xs ys,x=.ref a/\y=.ref b/\iY K H a xs/\iY K H b ys/\xs≠[]/\xs.length+ys.length<=sizeLine/\ (ys=[]->Q (.ref a) H)/\(ys≠[]->∀p,H p=none->Q (.ref p) (upd H p (.tup (xs++ys))))
def cx.xJ (r:cx xs us):us=[]↔xs=[]:=by
 cases r with
 |nil=>simp
 |cons _ _=>simp
def La:gT X (binaryOp .Add) (VI X.K):=by intro ac s U H x y v u Q I rx ry h;obtain⟨a,b,xs,ys,rfl,rfl,ha,hb,hx,hz,q1,q2⟩:=h;cases rx;cases ry;obtain⟨bV,r1,p1,_⟩:=I.tuple ha;obtain⟨jV,r2,p2,_⟩:=I.tuple hb;refine K7 p1 p2 (λz=>hx (r1.xJ.mp z)) (λz=>⟨.ref a,H,I,rfl,q1 (r2.xJ.mp z)⟩) (λz=>?_) (by rw[<-r1.length,<-r2.length];exact hz);refine⟨.ref s.heap.objs.size,_,I.laid (t':=s.toks) (o:=.tup (xs++ys)) (λb ob q=>af _ q) (ao _) ?_,rfl,q2 (λw=>z (r2.xJ.mpr w)) _ (I.dh.fresh (ao _))⟩;exact⟨by rw[aA];exact hz,_,r1.append r2,vO.new _ _⟩
end
def Kc (n:Nat) (i:Int):Option Nat:=if 0<=i then(if i<n then some i.toNat else none) else if-(n:Int)<=i then some (i+n).toNat else none
def xK {α:Type}(xs:List α) (i:Int):Option α:=(Kc xs.length i).bind λj=>xs[j]?
def xM (h:Kc n i=some j):seqIndex? i n=some j/\j<n/\-(n:Int)<=i/\i<n:=by
 unfold Kc at h;by_cases h0:0<=i
 .rw[aJ h0] at h;by_cases h1:i<n
  .rw[aJ h1] at h;have e:i.toNat=j:=bf h;exact⟨by rw[seqIndex_of h0 h1,e],ω,ω,h1⟩
  .rw[aI h1] at h;cases h
 .rw[aI h0] at h;by_cases h1:-(n:Int)<=i
  .rw[aJ h1] at h;have e:(i+n).toNat=j:=bf h;exact⟨by rw[seqIndex_neg ω h1,e],ω,h1,ω⟩
  .rw[aI h1] at h;cases h
def C8 {α:Type}{xs:List α}{i:Int}{v:α}(h:xK xs i=some v):∃j,seqIndex? i xs.length=some j/\xs[j]?=some v/\j<xs.length/\-(xs.length:Int)<=i/\i<xs.length:=by
 unfold xK at h;cases e:Kc xs.length i with
 |none=>rw[e] at h;cases h
 |some j=>rw[e] at h;obtain⟨h1,h2,h3,h4⟩:=xM e;exact⟨j,h1,h,h2,h3,h4⟩
def a_ {α:Type}{xs:List α}{j:Nat}{v:α}(h:xs[j]?=some v):xK xs (j:Int)=some v:=by
 have hj:j<xs.length:=(aF.mp h).1;have e:Kc xs.length (j:Int)=some j:=by unfold Kc;rw[aJ ω,aJ ω];simp
 unfold xK;rw[e];exact h
def ni {α:Type}(xs:List α) (v:α):xK (xs++ [v]) (-1)=some v:=by
 have hl:(xs++ [v]).length=xs.length+1:=ς;have e:Kc (xs++ [v]).length (-1)=some xs.length:=by unfold Kc;rw[hl,aI δ,aJ ω];congr 1;omega
 unfold xK;rw[e];show(xs++ [v])[xs.length]?=some v;simp
def Lb (b:Expr):Prop:=∀o i,subscripted b false o i=operate [o,i] (getItem o i)
def Oz (X:Cx) (r:R2):Prop:=∀(value slice:Expr) (ac:Aaa) (s:ar) (U:St) (H:Hp) (x y:V) (v u:ai) (Q:VK),Inv X ac U H s->RelV x v->RelV y u->r x y H Q-> subscripted slice false v u=operate [v,u] (getItem v u)->wpAny (model X.prog X.w) X.A (subscriptTail value slice v u) (EP X ac U Q) X.xe s
def Kd (X:Cx) (id:String) (r:V->Aac->Hp->VK->Prop):Prop:=∀(ac:Aaa) (s:ar) (U:St) (H:Hp) (x:V) (xs:Aac) (v:ai) (us:Aad) (Q:VK),Inv X ac U H s->RelV x v->cx xs us->r x xs H Q-> wpAny (model X.prog X.w) X.A (call (.builtin id) (v::us)) (EP X ac U Q) X.xe s
section
variable {a b:Expr}{ta tb:TE}{pos:Pos}
def bW {r:R2}(hr:Oz X r) (ha:PE X a ta) (hb:PE X b tb) (hs:Lb b:=by intro _ _;rfl):PE X (.Subscript a b pos) (oH r ta tb):=by intro ac s U H Q I h;exact Subscript_ (Qq ha hb I h λv u s2 x y H2 I2 rx ry q=>hr a b ac s2 U H2 x y v u Q I2 rx ry q (hs _ _))
def aaw (K:Φ):R2:=λx y H Q=>∃p xs i v,x=.ref p/\y=.int i/\gj K H p xs/\xK xs i=some v/\Q v H
def aax (K:Φ):R2:=λx y H Q=>∃p xs i v,x=.ref p/\y=.int i/\iY K H p xs/\xK xs i=some v/\Q v H
def kE:Oz X (aaw X.K):=by
 intro value slice ac s U H x y v u Q I rx ry h hs;obtain⟨p,xs,i,z,rfl,rfl,hq,he,q⟩:=h;cases rx;obtain⟨t,rfl⟩:=ry;obtain⟨bV,r,pl,hz⟩:=I.list hq;obtain⟨j,h1,h2,h3,h4,h5⟩:=C8 he;obtain⟨w,ew,Bm⟩:=r.get h2;have hl:=r.length;have hn:=rJ;have fin:EP X ac U Q w s:=⟨z,H,I,Bm,q⟩;by_cases h0:0<=i
 .have hj:i.toNat=j:=by rw[seqIndex_of h0 h5] at h1;exact bf h1
  exact item_listR pl.isList h0 ω (by rw[hj];simpa using ew) fin hs
 .have hj:(i+(bV.toArray.size:Int)).toNat=j:=by rw[seqIndex_neg ω h4] at h1;rw[aC,<-hl];exact bf h1
  exact subscriptTail_builtinR (x:=w) pl.isList.typeIs slot_list_getitem.lookup (wpAny_getItem_list_neg (Q:=λr s'=>r=w/\EP X ac U Q r s') pl.isList ω (by rw[aC]<;>omega) ω (by rw[hj];simpa using ew) ⟨rfl,fin⟩) hs
def QC:Oz X (aax X.K):=by intro value slice ac s U H x y v u Q I rx ry h hs;obtain⟨p,xs,i,z,rfl,rfl,hq,he,q⟩:=h;cases rx;obtain⟨t,rfl⟩:=ry;obtain⟨bV,r,pl,hz⟩:=I.tuple hq;obtain⟨j,h1,h2,h3,h4,h5⟩:=C8 he;obtain⟨w,ew,Bm⟩:=r.get h2;have hl:=r.length;have hn:=rJ;have fin:EP X ac U Q w s:=⟨z,H,I,Bm,q⟩;exact subscriptTail_builtinR (x:=w) pl.typeIs slot_tuple_getitem.lookup (getItem_tuple (j:=j) (Q:=λr s'=>r=w/\EP X ac U Q r s') pl ω ω (by rw[aC,<-hl];exact h1) (by simpa using ew) ⟨rfl,fin⟩) hs
def BC (bV:Aad) (n j:Nat) (u:ai):Obj.mapSeq (·.setIfInBounds j u) {cls:=.type "list",data:=.seq bV.toArray n}={cls:=.type "list",data:=.seq (bV.set j u).toArray n}:=by simp[Obj.mapSeq]
def Inv.lst {U}{H}{s}(I:Inv X ac U H s) (h:H p=some (.lst xs)):
  ∃(bV:Aad) (n:Nat),cx xs bV/\s.heap.get? p=some {cls:=.type "list",data:=.seq bV.toArray n}/\xs.length<=sizeLine:=by
 obtain⟨z,bV,n,r,e⟩:=I.dh p _ h;exact⟨bV,n,r,e,z⟩
def Inv.QD {ac:Aaa}{U:St}{H:Hp}{s:ar}{p:aq}{xs ys:Aac}{bV its':Aad}{n n':Nat}{f:Obj->Obj}(I:Inv X ac U H s) (h:H p=some (.lst xs)) (ho:s.heap.get? p=some {cls:=.type "list",data:=.seq bV.toArray n}) (hf:f {cls:=.type "list",data:=.seq bV.toArray n}={cls:=.type "list",data:=.seq its'.toArray n'}) (r:cx ys its') (hz:ys.length<=sizeLine) (t:Nat):
  Inv X ac U (upd H p (.lst ys)) {s with heap:=s.heap.update p f,toks:=t}:=by
 have e:(s.heap.update p f).get? p=some {cls:=.type "list",data:=.seq its'.toArray n'}:=by rw[cF f ho (by rw[hf]<;>rfl),hf]
 refine I.write (x:=p) (e:=p) (by rw[h];trivial) (.inl rfl) (λb u hb q=>(aV _ _ (eJ hb)).trans q) ⟨_,e⟩ ?_;exact⟨hz,its',n',r,e⟩
def VJ:V->V->V->Hp->(Hp->Prop)->Prop:=λo i v H Q=>∃p xs k j,o=.ref p/\i=.int k/\H p=some (.lst xs)/\Kc xs.length k=some j/\Q (upd H p (.lst (xs.set j v)))
def set_list:Vt X VJ:=by
 intro ac s U H o i v ov iv u Q I ro ri rv h;obtain⟨p,xs,k,j,rfl,rfl,hp,hj,q⟩:=h;cases ro;obtain⟨t,rfl⟩:=ri;obtain⟨bV,n,r,ho,hz⟩:=I.lst hp;obtain⟨h1,h2,h3,h4⟩:=xM hj;have hl:=r.length;have hn:=rJ;have I':Inv X ac U (upd H p (.lst (xs.set j v))) {s with heap:=s.heap.update p (Obj.mapSeq (·.setIfInBounds j u))}:=I.QD hp ho (BC bV n j u) (r.set rv j) (by rw[List.length_set];exact hz) s.toks;by_cases h0:0<=k
 .have hk:k.toNat=j:=by rw[seqIndex_of h0 h4] at h1;exact bf h1
  exact PySem.W.ki_setAt ho h0 ω (by rw[aC,<-hl];exact h4) (by rw[hk];exact⟨_,I',q⟩)
 .have hk:(k+(bV.toArray.size:Int)).toNat=j:=by rw[seqIndex_neg ω h3] at h1;rw[aC,<-hl];exact bf h1
  exact PySem.W.ki_setBack ho ω (by rw[aC,<-hl];exact h3) ω (by rw[hk];exact⟨_,I',q⟩)
def xN (lo hi:Option Int) (n:Nat):(sliceBounds lo hi none n).1=((gF n 0 lo:Nat):Int)/\(sliceBounds lo hi none n).2.1=((gF n n hi:Nat):Int)/\(sliceBounds lo hi none n).2.2=1:=by
 refine⟨?_,?_,rfl⟩
 .cases lo with
  |none=>simp[sliceBounds,gF]
  |some i=>simp only[sliceBounds,gF,Option.getD_none,show(1:Int)>0 by decide,jg];exact Oy i n
 .cases hi with
  |none=>simp[sliceBounds,gF]
  |some i=>simp only[sliceBounds,gF,Option.getD_none,show(1:Int)>0 by decide,jg];exact Oy i n
def vS (bV:Aad) (lo hi:Option Int):slicePick bV.toArray lo hi none=((bV.drop (gF bV.length 0 lo)).take (gF bV.length bV.length hi-gF bV.length 0 lo)).toArray:=by obtain⟨h1,h2,h3⟩:=xN lo hi bV.toArray.size;unfold slicePick;rw[h1,h2,h3];simp only[sliceRange_one,pick_run,aC]<;>rfl
def aay (K:Φ):V->Option Int->Option Int->Hp->VK->Prop:=λx lo hi H Q=>∃a xs,x=.ref a/\gj K H a xs/\∀p,H p=none->Q (.ref p) (upd H p (.lst (gO xs lo hi)))
def C9:Uy X (aay X.K):=by intro ac s U H x v vl vu lo hi sl Q I rx hs pl pu h;obtain⟨a,xs,rfl,hx,q⟩:=h;cases rx;obtain⟨bV,r,ht,hz⟩:=I.list hx;have hlen:=r.length;refine⟨"list",_,slot_list_getitem.lookup,ht.isList.typeIs,?_⟩;refine wpAny_getItem_list_slice ht.isList hs pl pu .none ς ?_ (by rw[aC]<;>omega);rw[vS,<-hlen];refine⟨.ref s.heap.objs.size,_,I.laid (t':=s.toks) (o:=.lst (gO xs lo hi)) (λb ob q=>af _ q) (ao _) ?_,rfl,q _ (I.dh.fresh (ao _))⟩;exact⟨aB (sD xs lo hi) hz,_,0,(r.drop (gF xs.length 0 lo)).take (gF xs.length xs.length hi-gF xs.length 0 lo),av _ rfl⟩
def kF:V->Bool
 | .e_=>true
 | .bl _=>true
 | .int _=>true
 | .str _=>true
 |_=>false
def Hc:V->V->Bool
 | .e_,.e_=>true
 | .bl a,.bl b=>a==b
 | .bl a,.int b=>(if a then 1 else 0)==b
 | .int a,.bl b=>a==(if b then 1 else 0)
 | .int a,.int b=>a==b
 | .str a,.str b=>a==b
 |_,_=>false
def QE {A}{s}(ry:RelV y u) (rx:RelV x v) (fy:kF y=true) (fx:kF x=true):SeqAt.EqAt A s u v (Hc y x):=by
 cases y with
 |e_=>
  cases ry;cases x with
  |e_=>cases rx;exact SeqAt.EqAt.same _
  |bl b=>cases rx;exact SeqAt.EqAt.none_bool b
  |int b=>obtain⟨t,rfl⟩:=rx;exact SeqAt.EqAt.none_int b t
  |str b=>obtain⟨t,rfl⟩:=rx;exact SeqAt.EqAt.none_str b t
  |_=>exact absurd (show false=true from fx) bD
 |bl a=>
  cases ry;cases x with
  |e_=>cases rx;exact SeqAt.EqAt.bool_none a
  |bl b=>cases rx;exact SeqAt.EqAt.bool_bool a b
  |int b=>obtain⟨t,rfl⟩:=rx;exact SeqAt.EqAt.bool_int a b t
  |str b=>obtain⟨t,rfl⟩:=rx;exact SeqAt.EqAt.bool_str a b t
  |_=>exact absurd (show false=true from fx) bD
 |int a=>
  obtain⟨t',rfl⟩:=ry;cases x with
  |e_=>cases rx;exact SeqAt.EqAt.int_none a t'
  |bl b=>cases rx;exact SeqAt.EqAt.int_bool a t' b
  |int b=>obtain⟨t,rfl⟩:=rx;exact kO a t' b t
  |str b=>obtain⟨t,rfl⟩:=rx;exact SeqAt.EqAt.int_str a t' b t
  |_=>exact absurd (show false=true from fx) bD
 |str a=>
  obtain⟨t',rfl⟩:=ry;cases x with
  |e_=>cases rx;exact SeqAt.EqAt.str_none a t'
  |bl b=>cases rx;exact SeqAt.EqAt.str_bool a t' b
  |int b=>obtain⟨t,rfl⟩:=rx;exact SeqAt.EqAt.str_int a t' b t
  |str b=>obtain⟨t,rfl⟩:=rx;exact rm a t' b t
  |_=>exact absurd (show false=true from fx) bD
 |_=>exact absurd (show false=true from fy) bD
def BD (x:V) (u:ai):Bool:=match u with
 | .none=>Hc .e_ x
 | .bool b=>Hc (.bl b) x
 | .int i _=>Hc (.int i) x
 | .str z _=>Hc (.str z) x
 |_=>false
def Hd (r:RelV y u) (f:kF y=true):BD x u=Hc y x:=by
 cases y with
 |e_=>cases r;rfl
 |bl b=>cases r;rfl
 |int i=>obtain⟨t,rfl⟩:=r;rfl
 |str z=>obtain⟨t,rfl⟩:=r;rfl
 |_=>exact absurd (show false=true from f) bD
def qB:∀{xs:Aac}{us:Aad},cx xs us->xs.all kF=true->us.any (BD x)=xs.any λy=>Hc y x
 |_,_,.nil,_=>rfl
 |y::xs,u::us,.cons r t,f=>by rw[List.all_cons,cA] at f;rw[iu,iu,Hd r f.1,qB t f.2]
def nj {A}{s}(rx:RelV x v) (fx:kF x=true):∀{xs:Aac}{us:Aad},cx xs us->xs.all kF=true->∀u∈us,SeqAt.EqAt A s u v (BD x u)
 |_,_,.nil,_=>λu hu=>by cases hu
 |y::xs,u::us,.cons r t,f=>λu' hu=>by
  rw[List.all_cons,cA] at f;rcases aU.mp hu with rfl|hu
  .rw[Hd r f.1];exact QE r rx f.1 fx
  .exact nj rx fx t f.2 u' hu
def Gc (x:V) (xs:Aac):Bool:=xs.any λy=>Hc y x
def rIn (K:Φ) (neg:Bool):R2:=λx y H Q=>∃p xs,y=.ref p/\(gj K H p xs\/iY K H p xs)/\kF x=true/\xs.all kF=true/\Q (.bl (if neg then !Gc x xs else Gc x xs)) H
def EH:gT X (compareOp .In) (rIn X.K false):=by
 intro ac s U H x y v u Q I rx ry h;obtain⟨p,xs,rfl,hq,fx,fs,q⟩:=h;cases ry;rcases hq with hq|hq
 .obtain⟨bV,r,pl,hz⟩:=I.list hq;refine SeqAt.in_listAt (BD x) pl.isList (λw hw=>nj rx fx r fs w (by simpa using hw)) ⟨.bl _,H,I,rfl,?_⟩;rw[show bV.toArray.any (BD x)=bV.any (BD x) by simp,qB r fs];exact q
 .obtain⟨bV,r,pl,hz⟩:=I.tuple hq;refine SeqAt.in_tupleAt (BD x) pl (λw hw=>nj rx fx r fs w (by simpa using hw)) ⟨.bl _,H,I,rfl,?_⟩;rw[show bV.toArray.any (BD x)=bV.any (BD x) by simp,qB r fs];exact q
def xO:gT X (compareOp .NotIn) (rIn X.K true):=by
 intro ac s U H x y v u Q I rx ry h;obtain⟨p,xs,rfl,hq,fx,fs,q⟩:=h;cases ry;rcases hq with hq|hq
 .obtain⟨bV,r,pl,hz⟩:=I.list hq;refine SeqAt.notIn_listAt (BD x) pl.isList (λw hw=>nj rx fx r fs w (by simpa using hw)) ⟨.bl _,H,I,rfl,?_⟩;rw[show bV.toArray.any (BD x)=bV.any (BD x) by simp,qB r fs];exact q
 .obtain⟨bV,r,pl,hz⟩:=I.tuple hq;refine SeqAt.notIn_tupleAt (BD x) pl (λw hw=>nj rx fx r fs w (by simpa using hw)) ⟨.bl _,H,I,rfl,?_⟩;rw[show bV.toArray.any (BD x)=bV.any (BD x) by simp,qB r fs];exact q
def qC:dR X (.builtin "len") (λxs H Q=>∃p ys,xs=[.ref p]/\(gj X.K H p ys\/iY X.K H p ys)/\Q (.int ys.length) H):=by
 intro ac s U H xs us Q I r h;obtain⟨p,ys,rfl,hq,q⟩:=h;obtain⟨u,rfl,rx⟩:=mB r;cases rx;have hn:=rJ;rcases hq with hq|hq
 .obtain⟨bV,r',pl,hz⟩:=I.list hq;have hlen:=r'.length;exact Calls.call_len_list pl.isList (by simp only[aC]<;>omega) ⟨.int ys.length,H,I.tok _,⟨s.toks+1,by rw[aC,hlen]⟩,q⟩
 .obtain⟨bV,r',pl,hz⟩:=I.tuple hq;have hlen:=r'.length;exact len_tuple pl (by simp only[aC]<;>omega) ⟨.int ys.length,H,I.tok _,⟨s.toks+1,by rw[aC,hlen]⟩,q⟩
def xP:dR X (.builtin "len") (λxs H Q=>∃z,xs=[.str z]/\z.length<=sizeLine/\Q (.int z.length) H):=by intro ac s U H xs us Q I r h;obtain⟨z,rfl,hz,q⟩:=h;obtain⟨u,rfl,t,rfl⟩:=mB r;have hn:=rJ;exact len_str ω ⟨.int z.length,H,I.tok _,⟨_,rfl⟩,q⟩
def xQ:dR X (.type "list") (λxs H Q=>∃p ys,xs=[.ref p]/\(gj X.K H p ys\/iY X.K H p ys)/\∀l,H l=none->Q (.ref l) (upd H l (.lst ys))):=by
 intro ac s U H xs us Q I r h;obtain⟨p,ys,rfl,hq,q⟩:=h;obtain⟨u,rfl,rx⟩:=mB r;cases rx;have fin:∀(bV:Aad),cx ys bV->ys.length<=sizeLine->∀(h':Heap) (c':Nat),(∀b o',s.heap.get? b=some o'->h'.get? b=some o')-> h'.get? s.heap.objs.size=some {cls:=.type "list",dict:=none,data:=.seq bV.toArray c',slots:=#[]}->EP X ac U Q (.ref s.heap.objs.size) {s with heap:=h'}:=λbV r' hz h' c' kp e=>
  ⟨.ref s.heap.objs.size,_,I.laid (t':=s.toks) kp (ao _) (show fD X.prog X.w _ h' _ (.lst ys) from⟨hz,bV,c',r',e⟩),rfl,q _ (I.dh.fresh (ao _))⟩;rcases hq with hq|hq
 .obtain⟨bV,r',pl,hz⟩:=I.list hq;have hlen:=r'.length;obtain⟨o,ho,hc,n,hd⟩:=pl.isList;exact call_list_seq p (.inl rfl) ho hc hd (λh' c' kp e=>fin bV r' hz h' c' kp e) (by simp only[aC]<;>omega)
 .obtain⟨bV,r',pl,hz⟩:=I.tuple hq;have hlen:=r'.length;obtain⟨o,ho,hc,n,hd⟩:=pl;exact call_list_seq p (.inr rfl) ho hc hd (λh' c' kp e=>fin bV r' hz h' c' kp e) (by simp only[aC]<;>omega)
def vT:dR X (.type "tuple") (λxs H Q=>∃p ys,xs=[.ref p]/\((gj X.K H p ys/\∀l,H l=none->Q (.ref l) (upd H l (.tup ys)))\/(iY X.K H p ys/\Q (.ref p) H))):=by
 intro ac s U H xs us Q I r h;obtain⟨p,ys,rfl,h⟩:=h;obtain⟨u,rfl,rx⟩:=mB r;cases rx;rcases h with⟨hq,q⟩|⟨hq,q⟩
 .obtain⟨bV,r',pl,hz⟩:=I.list hq;have hlen:=r'.length;refine call_tuple_list pl.isList (λh' kp=>?_) (by simp only[aC]<;>omega);have I1:Inv X ac U H {s with heap:=h'}:=I.kept (t':=s.toks) kp;have I2:Inv X ac U (upd H h'.objs.size (.tup ys)) {s with heap:=h'.push {cls:=.type "tuple",data:=.seq bV.toArray}}:=I1.laid (t':=s.toks) (λb o e=>af _ e) (ao _) (show fD X.prog X.w _ _ _ (.tup ys) from⟨hz,bV,r',vO.new _ _⟩);exact⟨.ref h'.objs.size,_,I2,rfl,q _ (I1.dh.fresh (ao _))⟩
 .obtain⟨bV,r',pl,hz⟩:=I.tuple hq;exact call_tuple_same pl ⟨.ref p,H,I,rfl,q⟩
def tyV (K:Φ) (T:String) (x:V) (H:Hp):Prop:=match x with
 | .str _=>T="str"
 | .int _=>T="int"
 | .ref p=>(T="list"/\∃xs,gj K H p xs)\/(T="tuple"/\∃o,K.lookup p=some o/\o.cls=.type "tuple"/\o.dict=none)\/ (T="dict"/\((∃kvs,H p=some (.dK kvs))\/∃kvs,H p=some (.dT kvs)))\/(T="set"/\∃S n,H p=some (.set S n))
 |_=>False
def BE {U}{H}{s}(I:Inv X ac U H s) (r:RelV x v) (ty:tyV X.K T x H):
  s.TypeIs v T/\∀a,v=.ref a->∃ob,s.heap.get? a=some ob/\ob.dict=none:=by
 cases x with
 |str z=>obtain⟨t,rfl⟩:=r;cases(show T="str" from ty);exact⟨typeIs_str s z t,λ_ e=>nomatch e⟩
 |int i=>obtain⟨t,rfl⟩:=r;cases(show T="int" from ty);exact⟨typeIs_int s i t,λ_ e=>nomatch e⟩
 |ref p=>
  cases r;rcases ty with⟨rfl,xs,hq⟩|⟨rfl,o,hk,hc,hd⟩|⟨rfl,hk⟩|⟨rfl,S,n,hk⟩
  .obtain⟨bV,_,pl,_⟩:=I.list hq;refine⟨pl.isList.typeIs,λa e=>?_⟩;cases e;obtain⟨o,n,e,c,hd,_⟩:=pl;exact⟨o,e,hd⟩
  .refine⟨⟨o,I.pJ p o hk,hc⟩,λa e=>?_⟩;cases e;exact⟨o,I.pJ _ o hk,hd⟩
  .have z:∃o,s.heap.get? p=some o/\o.ExactDict:=by
    rcases hk with⟨kvs,hk⟩|⟨kvs,hk⟩
    .obtain⟨_,_,_,_,o,_,_,e,ex,_⟩:=I.dh p _ hk;exact⟨o,e,ex⟩
    .obtain⟨_,_,_,_,o,_,_,e,ex,_⟩:=I.dh p _ hk;exact⟨o,e,ex⟩
   obtain⟨o,e,ex⟩:=z;refine⟨⟨o,e,ex.1⟩,λa e2=>?_⟩;cases e2;exact⟨o,e,ex.2.1⟩
  .obtain⟨o,_,_,_,e,ex,_⟩:=I.dh p _ hk;refine⟨⟨o,e,ex.1⟩,λa e2=>?_⟩;cases e2;exact⟨o,e,ex.2.1⟩
 |_=>exact False.elim ty
def aaz (K:Φ) (T:String) (r:V->Aac->Hp->VK->Prop) (to:TE):TE:=λU H Q=>to U H λx H1=>tyV K T x H1/\r x [] H1 Q
variable {o e:Expr}{es:List Expr}{to:TE}{t:TA}{name:Str}{apos iH:Pos}{T id:String}{r:V->Aac->Hp->VK->Prop}
def QF (pa:PlainAttrs T) (slot:Slot T name id) (VL:typeOf (.builtin id)=pure (.type "method_descriptor")) (hm:Kd X id r) (ho:PE X o to) (zq:attributeBase o name X.env (eval o X.env)=eval o X.env:=by rfl) (zu:(apos.endLine==iH.line)=true:=by rfl):PE X (.Call (.Attribute o name apos) [] [] iH) (aaz X.K T r to):=by intro ac s U H Q I h;refine wpAny_Call_method0_late zq zu (dq (ho ac s U H _ I h) λv s1 ⟨x,H1,I1,r1,ty,q1⟩=>?_);obtain⟨h1,h2⟩:=BE I1 r1 ty;exact⟨T,id,pa,slot,VL,h1,h2,lV rfl (PySem.evalArgs_none (hm ac s1 U H1 x [] v [] Q I1 r1 .nil q1))⟩
end
def VM (X:Cx) (id:String) (r:V->Aac->Hp->VK->Prop):Prop:=∀(ac:Aaa) (s:ar) (U:St) (H:Hp) (x:V) (xs:Aac) (v:ai) (us:Aad) (Q:VK),Inv X ac U H s->RelV x v->cx xs us->r x xs H Q-> wpAny (model X.prog X.w) X.A (call (.builtin id) (v::us)) (EP X ac U Q) X.xe s
def cx.one:∀{x:V}{us:Aad},cx [x] us->∃u,us=[u]/\RelV x u
 |_,_,.cons r .nil=>⟨_,rfl,r⟩
def cx.two:∀{x y:V}{us:Aad},cx [x,y] us->∃u v,us=[u,v]/\RelV x u/\RelV y v
 |_,_,_,.cons r (.cons q .nil)=>⟨_,_,rfl,r,q⟩
def cx.zero:∀{us:Aad},cx [] us->us=[]
 |_,.nil=>rfl
def cx.dropLast (h:cx xs us):cx xs.dropLast us.dropLast:=by
 induction h with
 |nil=>exact .nil
 |cons r t ih=>
  cases t with
  |nil=>exact .nil
  |cons q t'=>exact .cons r ih
def cx.eraseIdx:∀{xs:Aac}{us:Aad}(i:Nat),cx xs us->cx (xs.eraseIdx i) (us.eraseIdx i)
 |_,_,_,.nil=>.nil
 |_,_,0,.cons _ t=>t
 |_,_,i+1,.cons r t=>.cons r (cx.eraseIdx i t)
def BF {α:Type}(l:List α):l.eraseIdx (l.length-1)=l.dropLast:=by
 induction l with
 |nil=>rfl
 |cons a r ih=>
  cases r with
  |nil=>rfl
  |cons b r=>have e:(a::b::r).length-1=((b::r).length-1)+1:=rfl;rw[e,rn,ih];all_goals rfl
def wF {α:Type}:∀(l:List α) (i:Nat),(l.eraseIdx i).length<=l.length
 | [],_=>ao _
 |_::_,0=>dg _
 |_::r,i+1=>rp (wF r i)
section
variable {l b:aq}{xs ys zs:Aac}
def Inv.He {bV its':Aad} (I:Inv X ac U H s) (hH:H l=some (.lst xs)) (e:s.heap.get? l=some {cls:=.type "list",data:=.seq bV.toArray n}) (hf:f bV.toArray=its'.toArray) (hv:cx ys its') (hz:ys.length<=sizeLine):
  Inv X ac U (upd H l (.lst ys)) {s with heap:=s.heap.update l (Obj.mapSeq f),toks:=t'}:=by
 have q:=PySem.IsL.update e f;rw[hf] at q;refine I.write (x:=l) (e:=l) (by rw[hH];exact trivial) (.inl rfl) (λb' u hb hu=>(aV s.heap (Obj.mapSeq f) (eJ hb)).trans hu) ⟨_,q⟩ ?_;exact⟨hz,its',_,hv,q⟩
def Inv.VN (I:Inv X ac U H s) (hv:cx ys bV) (hz:ys.length<=sizeLine):
  Inv X ac U (upd H s.heap.objs.size (.lst ys)) {s with heap:=s.heap.push {cls:=.type "list",data:=.seq bV.toArray},toks:=t'}:=
 I.laid (λ_ _ q=>af _ q) (ao _) ⟨hz,bV,0,hv,av _ rfl⟩
def Inv.fresh (I:Inv X ac U H s):H s.heap.objs.size=none:=I.dh.fresh (ao _)
def Inv.zw (I:Inv X ac U H s) (hH:H l=some (.lst xs)):xs.length<=sizeLine/\∃(bV:Aad) (n:Nat),cx xs bV/\xs.length=bV.length/\s.heap.get? l=some {cls:=.type "list",data:=.seq bV.toArray n}:=by obtain⟨z,bV,n,r,e⟩:=I.dh l _ hH;exact⟨z,bV,n,r,r.length,e⟩
def Hf (h:n<=sizeLine):Builtin.List.listTooLong n=false:=by unfold Builtin.List.listTooLong;exact bw ω
end
def Lc:V->Aac->Hp->VK->Prop:=λx vs H Q=>∃l xs y,x=.ref l/\vs=[y]/\H l=some (.lst xs)/\xs.length<sizeLine/\Q .e_ (upd H l (.lst (xs++ [y])))
def n_:VM X "list.append" Lc:=by intro ac s U H x vs v us Q I rx rv h;obtain⟨l,xs,y,rfl,rfl,hH,hz,q⟩:=h;cases rx;obtain⟨u,rfl,ru⟩:=rv.one;obtain⟨z,bV,n,r,hl,e⟩:=I.zw hH;refine Gs F.slot_list_append ⟨_,e,rfl⟩ F.entry_list_append (F.args_list_append_2 _ _) (list_append l bV.toArray n u (by rw[aC];omega)) ⟨e,?_⟩;refine⟨.e_,_,I.He (its':=bV++ [u]) hH e ς (r.append (.cons ru .nil)) ?_,rfl,q⟩;rw[aA,aE];omega
def Ld:V->Aac->Hp->VK->Prop:=λx vs H Q=>∃l b xs zs,x=.ref l/\vs=[.ref b]/\H l=some (.lst xs)/\H b=some (.lst zs)/\xs.length+zs.length<=sizeLine/\Q .e_ (upd H l (.lst (xs++zs)))
def Uz:VM X "list.extend" Ld:=by
 intro ac s U H x vs v us Q I rx rv h;obtain⟨l,b,xs,zs,rfl,rfl,hH,hB,hz,q⟩:=h;cases rx;obtain⟨u,rfl,ru⟩:=rv.one;cases ru;obtain⟨z,bV,n,r,hl,e⟩:=I.zw hH;obtain⟨z2,jV,n2,r2,QG,e2⟩:=I.zw hB;have hsz:bV.toArray.size+jV.toArray.size<=sizeLine:=by rw[aC,aC];omega
 have VO:¬(!bV.toArray.isEmpty&&Builtin.List.listTooLong (bV.toArray.size+jV.toArray.size))=true:=by rw[Hf hsz,KA];exact bD
 refine Gs F.slot_list_extend ⟨_,e,rfl⟩ F.entry_list_extend (F.args_list_extend_2 _ _) (AutoSeq1.list_extend_list_list_0 l bV.toArray n b jV.toArray n2 VO (by rw[aC];omega) ω) ⟨e,e2,?_⟩;refine⟨.e_,_,I.He (its':=bV++jV) hH e ς (r.append r2) ?_,rfl,q⟩;rw[aA];omega
def aaA:V->Aac->Hp->VK->Prop:=λx vs H Q=>∃l xs y,x=.ref l/\vs=[]/\H l=some (.lst xs)/\xs[xs.length-1]?=some y/\Q y (upd H l (.lst xs.dropLast))
def QH:VM X "list.pop" aaA:=by
 intro ac s U H x vs v us Q I rx rv h;obtain⟨l,xs,y,rfl,rfl,hH,hy,q⟩:=h;cases rx;have hus:=rv.zero;subst hus;obtain⟨z,bV,n,r,hl,e⟩:=I.zw hH;obtain⟨u,hu,ru⟩:=r.get hy;have hy':bV.toArray[bV.toArray.size-1]?=some u:=by show bV.toArray[bV.length-1]?=some u;rw[<-Array.getElem?_toList,<-hl];exact hu
 refine Gs F.slot_list_pop ⟨_,e,rfl⟩ F.entry_list_pop (F.args_list_pop_1 _) (MeetsSeq.list_pop_last l bV.toArray n u hy' (by rw[aC];omega)) ⟨e,?_⟩;refine⟨y,_,I.He (its':=bV.dropLast) hH e ?_ r.dropLast ?_,ru,q⟩
 .show bV.toArray.eraseIdxIfInBounds (bV.toArray.size-1)=bV.dropLast.toArray;rw[aC,CK,BF]
 .rw[List.length_dropLast];omega
def QI:V->Aac->Hp->VK->Prop:=λx vs H Q=>∃l xs i k y,x=.ref l/\vs=[.int i]/\H l=some (.lst xs)/\-(2^63)<=i/\i<2^63/\seqIndex? i xs.length=some k/\xs[k]?=some y/\Q y (upd H l (.lst (xs.eraseIdx k)))
def zx:VM X "list.pop" QI:=by
 intro ac s U H x vs v us Q I rx rv h;obtain⟨l,xs,i,k,y,rfl,rfl,hH,h1,h2,hk,hy,q⟩:=h;cases rx;obtain⟨u,rfl,ru⟩:=rv.one;obtain⟨t,rfl⟩:=ru;obtain⟨z,bV,n,r,hl,e⟩:=I.zw hH;obtain⟨w,hw,Bm⟩:=r.get hy;refine Gs F.slot_list_pop ⟨_,e,rfl⟩ F.entry_list_pop (F.args_list_pop_2 _ _) (MeetsSeq.list_pop_at l bV.toArray n i t k w (fitsIndex_both h1 h2) (by rw[aC,<-hl];exact hk) (by rw[<-Array.getElem?_toList];exact hw) (by rw[aC];omega)) ⟨e,?_⟩;refine⟨y,_,I.He (its':=bV.eraseIdx k) hH e ?_ (r.eraseIdx k) ?_,Bm,q⟩
 .show bV.toArray.eraseIdxIfInBounds k=(bV.eraseIdx k).toArray;rw[CK]
 .have:=wF xs k;omega
def aaB:R2:=λx y H Q=>∃l b xs zs,x=.ref l/\y=.ref b/\H l=some (.lst xs)/\H b=some (.lst zs)/\xs.length+zs.length<=sizeLine/\∀p,H p=none->Q (.ref p) (upd H p (.lst (xs++zs)))
def QJ:gT X (binaryOp .Add) aaB:=by intro ac s U H x y v u Q I rx ry h;obtain⟨l,b,xs,zs,rfl,rfl,hH,hB,hz,q⟩:=h;cases rx;cases ry;obtain⟨z,bV,n,r,hl,e⟩:=I.zw hH;obtain⟨z2,jV,n2,r2,QG,e2⟩:=I.zw hB;refine PySem.P.add_list e e2 ?_ (by rw[aC,aC];omega);have ea:bV.toArray++jV.toArray=(bV++jV).toArray:=ς;rw[ea];exact⟨.ref _,_,I.VN (t':=s.toks) (r.append r2) (by rw[aA];omega),rfl,q _ I.fresh⟩
section
open PySem.W
open PySem.Calls
def tf {P}:∀(ns:List Int) (vs:Aad),WellAll P h vs (ns.map WData.int)->IntsAre vs ns:=by
 intro ns;induction ns with
 |nil=>intro vs w;rw[sY] at w;cases w;exact .nil
 |cons n ns ih=>
  intro vs w;rw[bG] at w;cases w with
  |cons a b=>cases a;exact .cons _ _ (ih _ b)
def EI {P}{l:OpenLaw}(hn:l.most=some n) (Le:l.row.toRowW.claim.pre args=true) (hwl:WellAll P h vals args):
  ∃a vs ns,vals=[Value.ref a]/\args=[WData.list (ns.map WData.int)]/\h.get? a=some {cls:=.type "list",data:=.seq vs.toArray}/\IntsAre vs ns/\ns.length<=n:=by
 have hsh:WShape.hasAll [] args [.list .int]=true:=(pre_splitW Le).1;have hc:l.pre.holds [] {args:=args}=true:=(pre_splitW Le).2;obtain⟨d,r,rfl,h1,h2⟩:=hasAllW_cons hsh;obtain rfl:=hasAllW_nil h2;obtain⟨xs,rfl,h3⟩:=hasW_list h1;obtain⟨ns,rfl⟩:=items_int h3;have hlen:ns.length<=n:=by
  unfold OpenLaw.pre at hc;have h4:(WTm.not (.lt (.lit (.int (n:Int))) (.len (.arg 0)))).holds [] {args:=[.list (ns.map .int)]}=true:=by have h4:=(holds_andW hc).1;rw[hn] at h4;exact h4
  have h5:=condW_of h4 (w_not (w_lt w_lit (w_len_list (w_arg rfl))));rw[ah] at h5;refine Er λq=>?_;have q':(n:Int)<((ns.length:Nat):Int):=ω;first
   |(rw[aZ q'] at h5;exact absurd h5 δ)
   |(simp at h5;omega)
 cases hwl with
 |cons w1 w2=>
  cases w2;cases w1 with
  |list ho aaC=>exact⟨_,_,ns,rfl,rfl,ho,tf ns _ aaC,hlen⟩
def EJ (l:OpenLaw) (args:List WData):l.row.toRowW.claim.post args (.bool true) args=true:=postW_of (r:=l.row.toRowW) (X:=(true==true)) (show WShape.has [] (.bool true) .bool=true by first|rfl|decide|simp[WShape.has,WShape.arms,WShape.armsAll]) (show(WTm.eq .res (.lit (.bool true))).value [] {args:=args,res:=some (.bool true),after:=args}=some (.bool (true==true)) from w_eq_bool (w_res rfl) w_lit) rfl
def zy {l:OpenLaw}{n:Nat}{q:aQ}{loose:Aab}{XP:(Str->Option ai)->Heap->Prop}{YP:bg->Heap->Prop}{d:DefRec}(hn:l.most=some n) (VP:d.params.defaults=[]) (call:∀(w:bg) (iO cZ:ar) (mg mb:Aae) (fa:aq) (o:Obj) (pm cd doc:ai) (a:aq) (vs:Aad) (ns:List Int),Ground q loose [] XP w iO mg mb cZ.heap->YP w cZ.heap-> cZ.heap.get? fa=some o->o.data=.func (docDef d.name d.params d.body d.scope pm cd doc)->cZ.heap.CodeRec cd d.name->mg d.name=some (.ref fa)-> cZ.heap.get? a=some {cls:=.type "list",data:=.seq vs.toArray}->IntsAre vs ns->ns.length<=n->cZ.gens=#[]-> codeAny (model l.prog w) callerA (.call (.ref fa) ⟨[.ref a],[]⟩) (λr s'=>r=.ok (.ret (.bool true))/\OldK cZ.heap s'.heap/\s'.os=cZ.os/\AllBare s'.gens) cZ):
  WalkO q loose XP YP l.row.toRowW d [] (λf vs=>PySem.call f vs):=by
 intro w iO cZ mg mb G Y fa o pm cd doc dV kV ho hd mX hD hmg hg args vals as Le acC hrd hwl hlo;obtain rfl:dV=.none:=Dflts.none hD VP;obtain rfl:kV=.none:=Dflts.noKw hD;obtain⟨a,vs,ns,rfl,rfl,QK,hints,hlen⟩:=EI hn Le hwl;refine enter_call (iM (call w iO cZ mg mb fa o pm cd doc a vs ns G Y ho (fd_plain hd) mX hmg QK hints hlen hg) λr s' hq=>?_);obtain⟨rfl,h2,h3,h4⟩:=hq;exact⟨.inl ⟨.bool true,.bool true,[],rfl,λ_=>rfl,.bool true,EJ l _,λ_=>⟨List.Pairwise.nil,λ_ hm=>(nomatch hm)⟩⟩,h2,h3,h4⟩
def ledger (h:Heap) (L d:aq):Aaa:=(List.range h.objs.size).filterMap λa=>if a=L\/a=d then none else(h.get? a).map λo=>(a,o)
end
def wG:∀{vs:Aad}{ns:List Int},IntsAre vs ns->cx (ns.map V.int) vs
 |_,_,.nil=>.nil
 |_,_,.cons n t h=>.cons ⟨t,rfl⟩ (wG h)
def fW (s:Stmt):Arguments:=match s with
 | .FunctionDef _ a _ _ _ _ _ _ _ _=>a
 |_=>{posonlyargs:=[],args:=[],vararg:=none,kwonlyargs:=[],kw_defaults:=[],kwarg:=none,defaults:=[]}
def eC (s:Stmt):List Stmt:=match s with
 | .FunctionDef _ _ b _ _ _ _ _ _ _=>b
 |_=>[]
def aP (s:Stmt):Scope:=match s with
 | .FunctionDef _ _ _ _ _ _ sc _ _ _=>sc
 |_=>{kind:=.function,names:=[],isGenerator:=false,isCoroutine:=false}
abbrev fK:CY:=λ_ _ _ _ _ _=>False
abbrev E0:XK:=λ_ _ _=>False
def wH:ng fK X E0:=λ_ _ _ _ _ _ _ h=>h.elim
structure gX (K:Φ) (x qual:Str) (st:Stmt) (f:aq) (fd:FuncData):Prop where
 ex:∃(oc:ai) (od:Option aq) (kV doc pm:ai) (an:Option aq) (eU ct:ai) (qy:Array (Option ai)),fd=PySem.W.fnOf x qual (fW st) (eC st) (aP st) .none kV doc pm an eU ct/\K.lookup f=some ⟨oc,od,.func fd,qy⟩/\PySem.W.codeIn K eU qual=true
 kp:PySem.W.keepIn K (.ref f)=true
variable {mg:Aae}{base:Heap}
def gX.ok {x qual:Str}{st:Stmt}{f:aq}{fd:FuncData}{N ps:Aab}{k:Nat}{sp:Sp}(F:gX K x qual st f fd) (S:bx N ps (aP st)) (len:∀vs H Q E,sp vs H Q E->vs.length=ps.length) (iS:∀(eU:ai) (A:bL) (outer:List Env) (s:ar) (H:Hp) (vs:Aac) (Q:VK) (E:XK),eS k (A.deeper (envOfC qual (aP st) s.heap.objs.size f eU))->sp vs H Q E-> ∃t,su (jC fK P w K mg base N qual (aP st) f eU A outer s H E).Bk (eC st) t/\t {nx:=λ_ H'=>Q .e_ H',rt:=Q} (start N vs) H):cG P w K mg base fK (k+1) f fd ps sp:=by obtain⟨oc,od,kV,doc,pm,an,eU,ct,qy,rfl,lk,mX⟩:=F.ex;refine C3 lk mX S len λA outer s H vs Q E hr C4=>?_;obtain⟨t,h,q⟩:=iS eU A outer s H vs Q E hr C4;exact⟨t,h.Bk,q⟩
def gX.binds {x qual:Str}{st:Stmt}{f:aq}{fd:FuncData}{ps:Aab}(F:gX K x qual st f fd) (h:∀(kV doc pm:ai) (an:Option aq) (eU ct:ai) (us:Aad),us.length=ps.length->bindArgs (PySem.W.fnOf x qual (fW st) (eC st) (aP st) .none kV doc pm an eU ct) ⟨us,[]⟩=pure (ps.zip us)):Binds K fd ps []:=by obtain⟨oc,od,kV,doc,pm,an,eU,ct,qy,rfl,lk,mX⟩:=F.ex;exact .all (h kV doc pm an eU ct)
def BG {st:Stmt} {kV doc pm eU ct:ai}(l:K.lookup f=some ⟨oc,od,.func (PySem.W.fnOf x qual (fW st) (eC st) (aP st) .none kV doc pm an eU ct),qy⟩) (c:PySem.W.codeIn K eU qual=true) (k:PySem.W.keepIn K (.ref f)=true):gX K x qual st f (PySem.W.fnOf x qual (fW st) (eC st) (aP st) .none kV doc pm an eU ct):=⟨⟨oc,od,kV,doc,pm,an,eU,ct,qy,rfl,l,c⟩,k⟩
def nr {A}(hr:eS k A):A.units+1<cLine:=bU (xy (by decide:1<=64) _) hr.units
def lD (h:n<=1000):n<sizeLine:=bU h δ
def pv (i:Nat) (hN:X.N[i]?=some x:=by rfl) (hv:Uw X.env.scope x:=by first|exact Or.inl rfl|exact Or.inr (Or.inl rfl)|exact Or.inr (Or.inr rfl)) (hd:(x==("__debug__":Str))=false:=by decide) (mX:(x==("__classdict__":Str))=false:=by decide):PE X (.Name x pos) (KQ i):=GA hN hv hd mX
def QL {A B:Prop}(h:A):if true=true then A else B:=by rw[aJ rfl];exact h
def oJ {c A B:Prop} [Decidable c] (h1:c->A) (h2:¬c->B):if c then A else B:=by
 by_cases h:c
 .rw[aJ h];exact h1 h
 .rw[aI h];exact h2 h
def bc (H H':Hp):Prop:=∀b o,H b=some o->H' b=some o
def bc.refl (H:Hp):bc H H:=λ_ _ h=>h
def bc.trans {H}(a:bc H H1) (b:bc H1 H2):bc H H2:=λc o h=>b c o (a c o h)
def bc.seq {H}{K:Φ} (e:bc H H') (h:gj K H a xs):gj K H' a xs:=by
 rcases h with(h|⟨o,h⟩)|h
 .exact .inl (.inl (e _ _ h))
 .exact .inl (.inr ⟨o,e _ _ h⟩)
 .exact .inr h
def jw (env:Env):List (Str×NameKind)->List (Str×aq)->List (Str×aq)
 | [],acc=>acc
 |(n,k)::r,acc=>jw env r (if k== .free then(match env.cells.lookup n with|some c=>(n,c)::acc|none=>acc) else acc)
abbrev eY (scope:Scope) (env:Env):List (Str×aq):=jw env scope.names []
def pN (hg:∀n k cs,g (n,k) cs=if(k==NameKind.free)=true then(cellOf env n>>=λc=>pure (ForInStep.yield ((n,c)::cs))) else pure (ForInStep.yield cs)):
  ∀(names:List (Str×NameKind)) (acc:List (Str×aq)),(∀y∈names,y.2=.free->∃c,env.cells.lookup y.1=some c)->forIn names acc g=pure (jw env names acc)
 | [],acc,_=>rfl
 |(n,k)::r,acc,h=>by
  rw[tT,hg];have hr:∀y∈r,y.2=.free->∃c,env.cells.lookup y.1=some c:=λy hy=>h y (bJ _ hy);unfold jw;by_cases hk:(k==NameKind.free)=true
  .rw[aJ hk,aJ hk];obtain⟨c,hc⟩:=h (n,k) bT (by simpa using hk);have ze:env.cells.lookup n=some c:=hc;have e:cellOf env n=pure c:=by unfold cellOf;rw[ze]
   rw[e,pure_bind,pure_bind,ze];exact pN hg r _ hr
  .rw[aI hk,aI hk,pure_bind];exact pN hg r _ hr
def fO (h:∀y∈scope.names,y.2=.free->∃c,env.cells.lookup y.1=some c):closureFor scope env=pure (eY scope env):=by
 unfold closureFor;dsimp only;rw[pN (env:=env) (λn k cs=>by
  show(if(k==NameKind.free)=true then _ else _)=_;split
  .rfl
  .rfl) scope.names [] h];rfl
def uC:∀(names:List (Str×NameKind)) (acc:List (Str×aq)),(∀y c,acc.lookup y=some c->env.cells.lookup y=some c)->(jw env names acc).lookup x=some c->env.cells.lookup x=some c
 | [],acc,h,e=>h _ _ e
 |(n,k)::r,acc,h,e=>by
  unfold jw at e;refine uC r _ ?_ e;intro y d z;split at z
  .split at z
   .rename_i c' ze;rw[fY] at z;cases hy:y==n with
    |true=>
     rw[hy] at z;have z':c'=d:=bf z;subst z';have:y=n:=by simpa using hy
     rw[this];exact ze
    |false=>rw[hy] at z;exact h _ _ z
   .exact h _ _ z
  .exact h _ _ z
def wI:∀(names:List (Str×NameKind)) (acc:List (Str×aq)),(∃c,acc.lookup x=some c)->∃c,(jw env names acc).lookup x=some c
 | [],acc,h=>h
 |(n,k)::r,acc,h=>by
  unfold jw;refine wI r _ ?_;split
  .split
   .rw[fY];cases x==n with
    |true=>exact⟨_,rfl⟩
    |false=>exact h
   .exact h
  .exact h
def qD:∀(names:List (Str×NameKind)) (acc:List (Str×aq)),(x,NameKind.free)∈names->(∃c,env.cells.lookup x=some c)->∃c,(jw env names acc).lookup x=some c
 | [],acc,h,_=>nomatch h
 |(n,k)::r,acc,h,hx=>by
  unfold jw;rcases aU.mp h with e|e
  .cases e;refine wI r _ ?_;obtain⟨c,hc⟩:=hx;rw[aJ δ,hc];exact⟨c,by rw[fY,beq_self_eq_true]⟩
  .exact qD r _ e hx
@[reducible] def Cx.mD (X:Cx) (N:Aab) (scope:Scope) (s:ar) (H:Hp) (fp:List aq):Cx:={X with N:=N,iO:=s,y_:=H,env:=compEnvC scope (eY scope X.env) s.heap.objs.size X.env,outer:=X.stack,stack:=X.stack,ex:=fp,fn:=λ_=>false,pn:=[],xe:=λ_ _=>False}
def pick (U:St):Option Nat->Option V
 |none=>none
 |some j=>(U[j]?).join
structure cY (X:Cx) (scope:Scope) (N:Aab) (r:List (Option Nat)):Prop where
 kind:scope.kind=.function
 jm:∀y∈scope.names,y.2≠.cell
 own:∀y∈scope.names,y.2=.local->scope.names.lookup y.1=some .local
 out:∀y∈scope.names,y.2=.free->X.env.scope.names.lookup y.1=some .cell\/X.env.scope.names.lookup y.1=some .free
 len:r.length=N.length
 free:∀(i j:Nat) (x:Str),r[i]?=some (some j)->N[i]?=some x->X.N[j]?=some x/\(x,NameKind.free)∈scope.names/\scope.names.lookup x=some .free
def mE (hf:∀y,(f y).1=y.1):∀{names:List (Str×NameKind)}{x:Str}{k:NameKind},(names.map f).lookup x=some k->∃k',names.lookup x=some k'/\(f (x,k')).2=k
 | [],_,_,h=>by simp at h
 |(n,k0)::r,x,k,h=>by
  rw[bG] at h;have e1:(f (n,k0)).1=n:=hf _;have e2:f (n,k0)=(n,(f (n,k0)).2):=vH e1 rfl;rw[e2,fY] at h;cases hx:x==n with
  |true=>
   rw[hx] at h;have hxn:x=n:=by simpa using hx
   subst hxn;exact⟨k0,by rw[fY,beq_self_eq_true],bf h⟩
  |false=>rw[hx] at h;obtain⟨k',h1,h2⟩:=mE hf h;exact⟨k',by rw[fY,hx];exact h1,h2⟩
def mF {f:Str×NameKind->Str×NameKind}(hf:∀y,(f y).1=y.1):∀{names:List (Str×NameKind)}{x:Str}{k:NameKind},names.lookup x=some k->(names.map f).lookup x=some (f (x,k)).2
 | [],_,_,h=>by simp at h
 |(n,k0)::r,x,k,h=>by
  rw[bG];have e1:(f (n,k0)).1=n:=hf _;have e2:f (n,k0)=(n,(f (n,k0)).2):=vH e1 rfl;rw[e2,fY];rw[fY] at h;cases hx:x==n with
  |true=>
   rw[hx] at h;have hxn:x=n:=by simpa using hx
   subst hxn;have:k0=k:=bf h;subst this;rfl
  |false=>rw[hx] at h;exact mF hf h
def qE {scope:Scope}{env:Env}{x:Str}{k:NameKind}(hc:∀y∈scope.names,y.2≠.cell) (h:(relabel scope env).names.lookup x=some k) (hk:k=.cell\/k=.free):scope.names.lookup x=some .free:=by
 have h':(scope.names.map λ(y:Str×NameKind)=>if(y.2==NameKind.free&&env.scope.kind== .function&&env.kindOf y.1==some .cell)=true then(y.1,NameKind.cell) else y).lookup x=some k:=h;obtain⟨k',h1,h2⟩:=mE (f:=λy=>if(y.2==NameKind.free&&env.scope.kind== .function&&env.kindOf y.1==some .cell)=true then(y.1,NameKind.cell) else y) (λy=>by split<;>rfl) h';dsimp only at h2;split at h2
 .rename_i z;have z1:(k'==NameKind.free)=true:=by simp only[cA] at z;exact z.1.1
  have:k'=.free:=by simpa using z1
  rw[this] at h1;exact h1
 .have Ke:k'=k:=h2;subst Ke;rcases hk with rfl|rfl
  .exact absurd rfl (hc _ (eI h1))
  .exact h1
def xR (h:scope.names.lookup x=some .free):(relabel scope env).names.lookup x=some .cell\/(relabel scope env).names.lookup x=some .free:=by
 have q:=mF (f:=λ(y:Str×NameKind)=>if(y.2==NameKind.free&&env.scope.kind== .function&&env.kindOf y.1==some .cell)=true then(y.1,NameKind.cell) else y) (λy=>by split<;>rfl) h;have q':(relabel scope env).names.lookup x=_:=q;rw[q'];dsimp only;split
 .exact .inl rfl
 .exact .inr rfl
def C_ (X:Cx) (ifs:List Expr) (t:TT):Prop:=∀(ac:Aaa) (s:ar) (U:St) (H:Hp) (Q:Bool->Hp->Prop),Inv X ac U H s->t U H Q-> wpAny (model X.prog X.w) X.A (forIn ifs true λc r=>if r=true then do let ok<-isTrue c X.env (eval c X.env);pure (ForInStep.yield ok) else pure (ForInStep.yield r)) (TP X ac U Q) X.xe s
def lF:TT:=λ_ H Q=>Q true H
def eD:C_ X [] lF:=λac s U H Q I h=>wpAny_tests_nil ⟨H,I,h⟩
def gK (hc:PT X c t):C_ X [c] t:=λac s U H Q I h=>wpAny_tests_one (hc ac s U H Q I h)
def sE {A}{s}(I:Nat->ar->Prop) (turn:∀n s,I n s->wpAny (model prog w) A (pyNext it) (λr cZ=>match r with
   |none=>R (.ok .next) cZ
   |some v=>wpAny (model prog w) A (letOwnedTupleGo target it v) (λ_ cZ=>wpAny (model prog w) A (assign target env v) (λ_ jB=>
    wpAny (model prog w) A (forIn ifs true λc r=>if r=true then do let ok<-isTrue c env (eval c env);pure (ForInStep.yield ok) else pure (ForInStep.yield r)) (λok lh=>
     if ok=true then wpAny (model prog w) A (eval elt env) (λx uD=>
      wpAny (model prog w) A (call (.builtin "list.append") [acc,x]) (λ_ uE=>∃m,m<n/\I m uE) (notedBy (model prog w) A env λe s'=>R (.error e) s') uD) (notedBy (model prog w) A env λe s'=>R (.error e) s') lh
     else∃m,m<n/\I m lh) (notedBy (model prog w) A env λe s'=>R (.error e) s') jB) (notedBy (model prog w) A env λe s'=>R (.error e) s') cZ)
    (notedBy (model prog w) A env λe s'=>R (.error e) s') cZ) (notedBy (model prog w) A env λe s'=>R (.error e) s') s)
  (n:Nat) (h:I n s):
  codeAny (model prog w) A (.compLoop (.ListComp elt [⟨target,iter,ifs,0⟩] scope pos) 0 it acc env) R s:=by
 refine KC rfl I (λn s hI=>?_) n h;show wpAny _ A ((compTurn (.ListComp elt [⟨target,iter,ifs,0⟩] scope pos) 0 it acc env).onRaise (λx=>do noteFrame x env;theTreesLotGoes x)) _ _ s;refine Ul ?_;rw[compTurn_list];refine aa (dP (aa (aN (turn n s hI) (λr cZ vU=>?_) λ_ _ h'=>h')));cases r with
 |none=>exact au vU
 |some v=>
  refine aa (aN vU (λ_ OA zz=>?_) λ_ _ h'=>h');refine aa (aN zz (λ_ jB xS=>aa (aN xS (λok lh vV=>?_) λ_ _ h'=>h')) λ_ _ h'=>h');cases ok with
  |false=>exact au ⟨rfl,vV⟩
  |true=>exact aa (aa (aN vV (λx uD Hg=>aa (aN Hg (λ_ uE Hh=>au (au ⟨rfl,Hh⟩)) λ_ _ h'=>h')) λ_ _ h'=>h'))
def lG {N:Aab}{scope:Scope}{r:List (Option Nat)}{ac:Aaa}{U:St}{H:Hp}{s:ar}{h4:Heap}{tk:Nat}{fp:List aq}(S:cY X scope N r) (I:Inv X ac U H s) (hf:∀b∈fp,gn X ac H b) (ie:∀b∈fp,b<s.heap.objs.size) (OC:h4.Ns s.heap.objs.size (λx=>([]:List (Str×ai)).reverse.lookup x)) (hk:∀b o,s.heap.get? b=some o->h4.get? b=some o):
  Inv (X.mD N scope s H fp) [] (r.map (pick U)) H {s with heap:=h4,toks:=tk}:=by
 have EK:∀x c,(eY scope X.env).lookup x=some c->X.env.cells.lookup x=some c:=λx c e=>uC scope.names [] (λ_ _ z=>by simp at z) e;have wJ:∀b∈fp,b∉nV X.stack:=λb hb z=>by
  obtain⟨_,f1,f2,_⟩:=hf b hb;rcases aU.mp (I.rG b z) with e|e
  .exact f1 e
  .exact f2 e
 refine⟨⟨I.ok.mod,S.kind,I.ok.glob,I.ok.blt,ao _,λx y c h1 h2=>I.ok.inj x y c (EK x c h1) (EK y c h2),λx hx=>?_,λx c z=>absurd z ς,I.ok.hd,I.ok.frames,.inl rfl,λb hb=>⟨aW (ie b hb),λx c e=>(hf b hb).2.2.2.2.1 x c (EK x c e)⟩,I.bs,aB I.ok.CM I.sz,λb o e hb=>?_,wJ,I.stack,I.xF⟩,
  rfl,I.bare,Un.kept hk,⟨_,OC,λi x v e1 e2 e3=>?_⟩,λx c e=>?_,I.dh.fresh (ao _),λx c e=>I.jL x c (EK x c e),λp hp=>absurd (show p∈([]:Aaa) from hp) ς,I.dh.kept hk,?_⟩
 .have hx':(relabel scope X.env).names.lookup x=some .cell\/(relabel scope X.env).names.lookup x=some .free:=hx;have CO:scope.names.lookup x=some .free:=by
   rcases hx' with z|z
   .exact qE S.jm z (.inl rfl)
   .exact qE S.jm z (.inr rfl)
  have hm:=eI CO;exact qD scope.names [] hm (I.ok.has x (S.out _ hm rfl))
 .obtain⟨_,_,_,f3,_⟩:=hf b hb;rcases f3 with z|z
  .exact I.ok.xE b o e z
  .exact absurd (aT (aG (I.ok.bs b o e).1) z) (cD _)
 .rw[aR] at e2;cases hr:r[i]? with
  |none=>rw[hr] at e2;cases e2
  |some oj=>
   rw[hr] at e2;cases oj with
   |none=>cases e2
   |some j=>
    have Dc:pick U (some j)=some v:=bf e2;obtain⟨k1,k2,k3⟩:=S.free i j x hr e1;have e4:U[j]?=some (some v):=by
     have Dc:(U[j]?).join=some v:=Dc;cases hj:U[j]? with
     |none=>rw[hj] at Dc;cases Dc
     |some o=>rw[hj] at Dc;rw[show o=some v from Dc]
    obtain⟨m,hn,hl⟩:=I.loc;have vis:Uw X.env.scope x:=by
     rcases S.out _ k2 rfl with z|z
     .exact .inr (.inl z)
     .exact .inr (.inr z)
    obtain⟨u,ru,lk⟩:=hl j x v k1 e4 vis;refine⟨u,ru,.inr ⟨xR k3,?_⟩⟩;rcases lk with⟨z,_⟩|⟨_,c,ec,ic⟩
    .have z':X.env.scope.names.lookup x=some .local:=z;rcases S.out _ k2 rfl with y|y
     .rw[y] at z';cases z'
     .rw[y] at z';cases z'
    .obtain⟨c',ec'⟩:=qD scope.names [] k2 ⟨c,ec⟩;have:c'=c:=bf ((EK x c' ec').symm.trans ec);subst this;exact⟨c',ec',ic.keeps hk⟩
 .obtain⟨v,z⟩:=I.cell x c (EK x c e);exact⟨v,z.keeps hk⟩
 .rw[ah];exact S.len
def qF {N:Aab}{scope:Scope}{ac:Aaa}{U de:St}{H H0 H':Hp}{s s0 s':ar}{h':Heap}{fp:List aq}(I:Inv X ac U H s) (hf:∀b∈fp,gn X ac H b) (u0:Un (nV X.stack) fp H H0 s.heap s0.heap) (hsz:s.heap.objs.size<=s0.heap.objs.size) (ho:s0.os=s.os) (J:Inv (X.mD N scope s0 H0 fp) [] de H' s') (hs:Heap.SameBut s0.heap.objs.size s'.heap h'):Inv X ac U H' {s' with heap:=h'}:=by
 have u:Un (nV X.stack) fp H H' s.heap s'.heap:=u0.trans J.base;have ne:∀b o,s.heap.get? b=some o->b≠s0.heap.objs.size:=λb o e=>aW (aT (aG e) hsz);have hC:H' s0.heap.objs.size=none:=J.free;refine I.Gz (s':={s' with heap:=h'}) (ch:=fp) (J.os.trans ho) ⟨λb o e n hb hx=>(hs.2 b (ne b o e)).trans (u.keep b o e n hb hx),λb o e n hb hx=>?_,u.free,λb o e hx=>?_,u.rE,u.qr,u.pH⟩ (λb ob e=>?_) J.bare λb hb=>⟨(hf b hb).2.2.2.1,(hf b hb).2.1,(hf b hb).2.2.2.2.1,(hf b hb).2.2.2.2.2⟩
 .obtain⟨sl,e1⟩:=u.slot b o e n hb hx;exact⟨sl,(hs.2 b (ne b o e)).trans e1⟩
 .obtain⟨o',e1⟩:=u.there b o e hx;exact⟨o',(hs.2 b (ne b o e)).trans e1⟩
 .refine(J.dh b ob e).vP (λc w' hc q=>(hs.2 c ?_).trans q) (λ_ q=>q) λ_ _ q=>q;rintro rfl;rcases hc with rfl|hc
  .rw[hC] at e;cases e
  .rw[hC] at hc;cases hc
def tj (J:It) (g:TG) (tc:TT) (te:TE) (kr:St) (H1:Hp) (Q:VK) (D:aq):Prop:=∃W:Nat->Nat->St->Hp->Prop,(∃m,W 0 m kr (upd H1 D (.lst [])))/\∀i m de H',W i m de H'-> (J.stop i H'/\Q (.ref D) H')\/(J.go i H'/\∃(N:St->Hp->Prop) (M:V->St->Hp->Prop),(∀cz H4,N cz H4->∃m',m'<m/\W (i+1) m' cz H4)/\ (∀y cz H5,M y cz H5->∃xs m',H5 D=some (.lst xs)/\xs.length<sizeLine/\m'<m/\W (i+1) m' cz (upd H5 D (.lst (xs++ [y]))))/\ ∀x H2,J.vR i H' x H2->g x de H2 λcz H3=>tc cz H3 λb H4=>if b=true then te cz H4 λy H5=>M y cz H5 else N cz H4)
def tLC (wi:TI) (r:List (Option Nat)) (g:TG) (tc:TT) (te:TE):TE:=λU H Q=>wi U H λJ H1=>∀D,H1 D=none->tj J g tc te (r.map (pick U)) H1 Q D
def gm (hc:X.calm=true) (hi:PI X tg iter wi) (S:cY X scope N r) (hg:∀s H fp,PG (X.mD N scope s H fp) tg g) (ht:∀s H fp,C_ (X.mD N scope s H fp) ifs tc) (he:∀s H fp,PE (X.mD N scope s H fp) elt te) (hs:∀x,foldedSetIterable iter X.env x=pure x:=by intro _;rfl):PE X (.ListComp elt [⟨tg,iter,ifs,0⟩] scope pos) (tLC wi r g tc te):=by
 intro ac s U H Q I h;rw[eval_ListComp];have zA:closureFor scope X.env=pure (eY scope X.env):=fO λy hy hk=>I.ok.has y.1 (S.out y hy hk);refine g9 (use:=none) rfl hs zA S.kind S.own ?_;show wpAny _ _ (eval iter X.env) _ _ s;refine dq (hi ac s U H _ I h) λv s1 h1=>dq h1 λQn s2 h2=>?_;obtain⟨it,fp,tn,J,H2,e,I2,T,qb,f2,q2⟩:=h2;subst e;have hD:H2 s2.heap.objs.size=none:=I2.dh.fresh (ao _);obtain⟨W,⟨m0,w0⟩,turn⟩:=q2 _ hD;have mP:∀b∈fp,b<s2.heap.objs.size:=λb hb=>by obtain⟨o,e,_⟩:=T.obj _ _ qb b hb;exact aG e
 refine bS ?_;generalize uc:({s2 with heap:=s2.heap.push {cls:=.type "list",dict:=none,data:=.seq ([]:Aad).toArray}}:ar)=s3;have k3:∀b o,s2.heap.get? b=some o->s3.heap.get? b=some o:=λb o e=>by rw[<-uc];exact af _ e
 have z3:s3.heap.objs.size=s2.heap.objs.size+1:=by rw[<-uc];exact bP ..
 have u3:Un (nV X.stack) fp H2 (upd H2 s2.heap.objs.size (.lst [])) s2.heap s3.heap:=Un.laid k3 (ao _) hD;have o3:s3.os=s2.os:=by rw[<-uc]
 have I3:Inv X ac U (upd H2 s2.heap.objs.size (.lst [])) s3:=by rw[<-uc];exact I2.laid (t':=s2.toks) (λb u e=>af _ e) (ao _) ⟨bH _,[],0,.nil,av _ rfl⟩
 have f3:∀b∈fp,gn X ac (upd H2 s2.heap.objs.size (.lst [])) b:=λb hb=>⟨by rw[bN (aW (mP b hb))];exact(f2 b hb).1,(f2 b hb).2⟩;refine gS S.jm (by intro y hy;simp at hy) (λh4 xT xU=>?_) S.kind;have k4:∀b o,s3.heap.get? b=some o->h4.get? b=some o:=λb o e=>xU.extBut b o (aW (aG e)) (af _ e);have J4:Inv (X.mD N scope s3 (upd H2 s2.heap.objs.size (.lst [])) fp) [] (r.map (pick U)) (upd H2 s2.heap.objs.size (.lst [])) {s3 with heap:=h4,toks:=s3.toks+([]:List (Str×ai)).length}:=lG S I3 f3 (λb hb=>by rw[z3];exact b8 (mP b hb)) xT k4;have Dd:tn 0 h4:=T.keep _ _ _ qb λb _ o e=>k4 b o (k3 b o e);have kf:∀{H':Hp},(∀b∈fp,H' b=none)->∀b∈fp,gn (X.mD N scope s3 (upd H2 s2.heap.objs.size (.lst [])) fp) [] H' b:=λhn b hb=>
  ⟨hn b hb,(J4.ok.AY b hb).1,J4.ok.rF b hb,.inl hb,(J4.ok.AY b hb).2,λp hp=>absurd (show p∈([]:Aaa) from hp) ς⟩;generalize hY:X.mD N scope s3 (upd H2 s2.heap.objs.size (.lst [])) fp=Y at*;have loop:∀s4:ar,s4={s3 with heap:=h4,toks:=s3.toks+([]:List (Str×ai)).length}-> codeAny (model X.prog X.w) X.A (.compLoop (.ListComp elt [⟨tg,iter,ifs,0⟩] scope pos) 0 (.ref it) (.ref s2.heap.objs.size) Y.env) (compPost (model X.prog X.w) X.A X.xe none (EP X ac U Q) (.ref s2.heap.objs.size) s3.heap.objs.size) s4:=by
  rintro s4 rfl;have yp:Y.prog=X.prog:=by rw[<-hY]
  have yw:Y.w=X.w:=by rw[<-hY]
  have yK:Y.K=X.K:=by rw[<-hY]
  have yA:Y.A=X.A:=by rw[<-hY]
  have yc:Y.calm=true:=by rw[<-hY];exact hc
  have Lf:PG Y tg g:=by rw[<-hY];exact hg _ _ _
  have Lg:C_ Y ifs tc:=by rw[<-hY];exact ht _ _ _
  have Lh:PE Y elt te:=by rw[<-hY];exact he _ _ _
  have yx:∀e s',¬Y.xe e s':=λe s' z=>by rw[<-hY] at z;exact z
  refine sE (λn s'=>∃i de H',Inv Y [] de H' s'/\tn i s'.heap/\(∀b∈fp,H' b=none)/\W i n de H') ?_ m0 ⟨0,_,_,J4,Dd,λb hb=>(f3 b hb).1,w0⟩;rintro n s5 ⟨i,ud,H5,I5,yV,AZ,w5⟩;rcases turn i n ud H5 w5 with⟨stop,qn⟩|⟨go,Nn,Mm,Kf,QM,step⟩
  .have d:=T.done Y yp yw yK yc i [] s5 ud H5 (notedBy (model X.prog X.w) X.A Y.env λe s'=>compPost (model X.prog X.w) X.A X.xe none (EP X ac U Q) (.ref s2.heap.objs.size) s3.heap.objs.size (.error e) s') I5 (kf AZ) yV stop;rw[yA] at d;refine dq d λrr s6 fh=>?_;obtain⟨hr,I6⟩:=fh;subst hr;obtain⟨m,hn,_⟩:=id I6.loc;refine⟨m,by rw[<-hY] at hn;exact hn,λh' Hi=>⟨.ref s2.heap.objs.size,H5,?_,rfl,qn⟩⟩;rw[<-hY] at I6;exact qF I2 f2 u3 (by rw[z3];exact dg _) o3 I6 Hi
  .have d:=T.item Y yp yw yK yc i [] s5 ud H5 (notedBy (model X.prog X.w) X.A Y.env λe s'=>compPost (model X.prog X.w) X.A X.xe none (EP X ac U Q) (.ref s2.heap.objs.size) s3.heap.objs.size (.error e) s') I5 (kf AZ) yV go;rw[yA] at d;refine dq d λrr s6 fh=>?_;obtain⟨u,hr,h6⟩:=fh;subst hr;refine dq h6 λ_ s7 fh=>?_;obtain⟨x,H7,I7,r7,y7,xV,Li⟩:=fh;have Lj:=I7.pinned (kf Li) (T.obj _ _ xV);have g7:=Lf _ s7 ud H7 x u _ Lj r7 (step x H7 y7);rw[yp,yw,yA] at g7;refine aN g7 (λ_ s8 fh=>?_) λe s' z=>(yx e s' z).elim;obtain⟨qc,H8,I8,q8⟩:=fh;have t8:=Lg _ s8 qc H8 _ I8 q8;rw[yp,yw,yA] at t8;refine aN t8 (λok s9 fh=>?_) λe s' z=>(yx e s' z).elim;obtain⟨H9,I9,q9⟩:=fh;have again:∀{jW:ar} {og:Hp} {m':Nat},Inv Y ([]++ke fp s7.heap) qc og jW->m'<n->W (i+1) m' qc og->∃m,m<n/\∃i de H',Inv Y [] de H' jW/\tn i jW.heap/\(∀b∈fp,H' b=none)/\W i m de H':=λ{jW og m'} rN hm wK=>by refine⟨m',hm,i+1,qc,og,rN.gf,T.keep _ _ _ xV λb hb o e=>(rN.pin (b,o) (aD _ (aD _ (eK hb e)))).1,λb hb=>?_,wK⟩;obtain⟨o,e,d⟩:=T.obj _ _ xV b hb;exact(rN.pin (b,o) (aD _ (aD _ (eK hb e)))).2.1
   cases ok with
   |false=>rw[aI ς] at q9⊢;obtain⟨m',hm,w9⟩:=Kf _ _ q9;exact again I9 hm w9
   |true=>rw[aJ rfl] at q9⊢;have e9:=Lh _ s9 qc H9 _ I9 q9;rw[yp,yw,yA] at e9;refine aN e9 (λuu jW fh=>?_) λe s' z=>(yx e s' z).elim;obtain⟨y,og,rN,OD,hM⟩:=fh;obtain⟨xs,m',QN,hz,hm,wK⟩:=QM _ _ _ hM;have a10:=n_ _ jW qc og (.ref s2.heap.objs.size) [y] (.ref s2.heap.objs.size) [uu] (λv Hq=>v=.e_/\Hq=upd og s2.heap.objs.size (.lst (xs++ [y]))) rN rfl (.cons OD .nil) ⟨_,xs,y,rfl,rfl,QN,hz,rfl,rfl⟩;rw[yp,yw,yA] at a10;refine aN a10 (λ_ De fh=>?_) λe s' z=>(yx e s' z).elim;obtain⟨_,ZK,Hj,_,_,VQ⟩:=fh;subst VQ;exact again Hj hm wK
 have Lk:Y.env={scope:=relabel scope X.env,locals:=s3.heap.objs.size,globals:=X.env.globals,cells:=eY scope X.env,qual:=X.env.qual,func:=none,code:=X.env.code,frame:=X.env.frame,builtins:=X.env.builtins}:=by rw[<-hY];rfl
 rw[Lk] at loop;exact xA (loop _ rfl) (T.self _ 0 _ _ _ Dd (loop _ rfl))
def Dg {J:It}{n:Nat}{f:Nat->V}{g:TG}{tc:TT}{te:TE}{kr:St}{H1:Hp}{Q:VK}{D:aq}(Iv:Nat->Aac->St->Hp->Prop) (hD:H1 D=none) (hn:n<=1000) (h0:Iv 0 [] kr (upd H1 D (.lst []))) (hj:∀i ys U H,i<=n->H D=some (.lst ys)->Iv i ys U H->(i=n->J.stop i H)/\(i<n->J.go i H/\∀x H',J.vR i H x H'->H'=H/\x=f i)) (hs:∀i ys U H,i<n->H D=some (.lst ys)->Iv i ys U H->g (f i) U H λcz H3=>tc cz H3 λb H4=>
   if b=true then te cz H4 λy H5=>H5 D=some (.lst ys)/\Iv (i+1) (ys++ [y]) cz (upd H5 D (.lst (ys++ [y]))) else H4 D=some (.lst ys)/\Iv (i+1) ys cz H4)
  (hd:∀ys U H,H D=some (.lst ys)->Iv n ys U H->Q (.ref D) H):tj J g tc te kr H1 Q D:=by
 refine⟨λi m U H=>m=n-i/\i<=n/\∃ys,H D=some (.lst ys)/\ys.length<=i/\Iv i ys U H,⟨n,rfl,bH _,[],ba,ao _,h0⟩,?_⟩;rintro i m U H ⟨rfl,hi,ys,hy,hl,iv⟩;obtain⟨j1,j2⟩:=hj i ys U H hi hy iv;by_cases ie:i<n
 .obtain⟨go,yl⟩:=j2 ie;refine .inr ⟨go,λcz H4=>H4 D=some (.lst ys)/\Iv (i+1) ys cz H4,λy cz H5=>H5 D=some (.lst ys)/\Iv (i+1) (ys++ [y]) cz (upd H5 D (.lst (ys++ [y]))),λcz H4 q=>?_,λy cz H5 q=>?_,λx H2 q=>?_⟩
  .exact⟨n-(i+1),ω,rfl,ie,ys,q.1,ω,q.2⟩
  .exact⟨ys,n-(i+1),q.1,lD ω,ω,rfl,ie,ys++ [y],ba,by rw[aA,aE];omega,q.2⟩
  .obtain⟨rfl,rfl⟩:=yl x H2 q;exact hs i ys U _ ie hy iv
 .have e:i=n:=ω;subst e;exact .inl ⟨j1 rfl,hd ys U H hy iv⟩
mutual
def Tells (H:Hp) (k:aq):PyData->V->Prop
 | .none,v=>v=.e_
 | .bool b,v=>v=.bl b
 | .int i,v=>v=.int i
 | .str x,v=>v=.str x
 | .list ds,v=>∃a vs,v=.ref a/\a≠k/\H a=some (.lst vs)/\cW H k ds vs
 | .tuple ds,v=>∃a vs,v=.ref a/\a≠k/\H a=some (.tup vs)/\cW H k ds vs
 | .dict _,_=>False
def cW (H:Hp) (k:aq):List PyData->Aac->Prop
 | [],vs=>vs=[]
 |d::ds,vs=>∃v r,vs=v::r/\Tells H k d v/\cW H k ds r
end
def cX (k:aq) (H H':Hp):Prop:=∀b o,b≠k->H b=some o->H' b=some o
def cX.refl (k:aq) (H:Hp):cX k H H:=λ_ _ _ e=>e
def cX.trans {H}(a:cX k H H1) (b:cX k H1 H2):cX k H H2:=λc o n e=>b c o n (a c o n e)
def bc.keep {H}(a:bc H H'):cX k H H':=λc o _ e=>a c o e
def bZ {H}(h:H p=none) (o:HO):bc H (upd H p o):=λb u q=>by rw[bN (h_ q h)];exact q
def cX.new {H}(h:H p=none) (o:HO):cX k H (upd H p o):=(bZ h o).keep
def cX.at {H}(o:HO):cX k H (upd H k o):=λb u n e=>by rw[bN n];exact e
mutual
def Tells.keep {H H':Hp}{k:aq}(K:cX k H H'):∀{d:PyData}{v:V},Tells H k d v->Tells H' k d v
 | .none,_,h=>by unfold Tells at h⊢;exact h
 | .bool _,_,h=>by unfold Tells at h⊢;exact h
 | .int _,_,h=>by unfold Tells at h⊢;exact h
 | .str _,_,h=>by unfold Tells at h⊢;exact h
 | .list ds,v,h=>by unfold Tells at h⊢;obtain⟨a,vs,e,n,q,r⟩:=h;exact⟨a,vs,e,n,K a _ n q,cW.keep K r⟩
 | .tuple ds,v,h=>by unfold Tells at h⊢;obtain⟨a,vs,e,n,q,r⟩:=h;exact⟨a,vs,e,n,K a _ n q,cW.keep K r⟩
 | .dict _,_,h=>by unfold Tells at h;exact h.elim
def cW.keep {H H':Hp}{k:aq}(K:cX k H H'):∀{ds:List PyData}{vs:Aac},cW H k ds vs->cW H' k ds vs
 | [],_,h=>by unfold cW at h⊢;exact h
 |d::ds,vs,h=>by unfold cW at h⊢;obtain⟨v,r,e,q,qs⟩:=h;exact⟨v,r,e,Tells.keep K q,cW.keep K qs⟩
end
def pO {H}:Tells H k (.list ds) v↔∃a vs,v=.ref a/\a≠k/\H a=some (.lst vs)/\cW H k ds vs:=by rw[Tells]
def eP {H}:Tells H k (.tuple ds) v↔∃a vs,v=.ref a/\a≠k/\H a=some (.tup vs)/\cW H k ds vs:=by rw[Tells]
def gU {H}:Tells H k (.str x) v↔v=.str x:=by rw[Tells]
def iw {H}:Tells H k (.int i) v↔v=.int i:=by rw[Tells]
def uF {H}:Tells H k (.bool b) v↔v=.bl b:=by rw[Tells]
def pP {H}:Tells H k .none v↔v=.e_:=by rw[Tells]
def fL {H}:cW H k [] vs↔vs=[]:=by rw[cW]
def cy {H}:cW H k (d::ds) vs↔∃v r,vs=v::r/\Tells H k d v/\cW H k ds r:=by rw[cW]
def qG {H}:∀{ds:List PyData}{vs:Aac},cW H k ds vs->vs.length=ds.length
 | [],_,h=>by rw[fL.mp h];rfl
 |d::ds,_,h=>by obtain⟨v,r,rfl,_,q⟩:=cy.mp h;simp[qG q]
def xW {H}(h:Tells H k d v):cW H k [d] [v]:=cy.mpr ⟨v,[],rfl,h,fL.mpr rfl⟩
mutual
def Tells.reads (I:Inv X ac U H s) {k:aq}:∀{d:PyData}{v:V}{u:ai},Tells H k d v->RelV v u->∃as,Reads s.heap u d as
 | .none,v,u,h,r=>by rw[pP] at h;subst h;cases(show u=Value.none from r);exact⟨_,.none⟩
 | .bool b,v,u,h,r=>by rw[uF] at h;subst h;cases(show u=Value.bool b from r);exact⟨_,.bool b⟩
 | .int i,v,u,h,r=>by rw[iw] at h;subst h;obtain⟨t,rfl⟩:=(show∃t,u=Value.int i t from r);exact⟨_,.int i t⟩
 | .str x,v,u,h,r=>by rw[gU] at h;subst h;obtain⟨t,rfl⟩:=(show∃t,u=Value.str x t from r);exact⟨_,.str x t⟩
 | .list ds,v,u,h,r=>by obtain⟨a,vs,rfl,_,e,q⟩:=pO.mp h;cases(show u=Value.ref a from r);obtain⟨_,bV,n,rv,g⟩:=I.dh a _ e;obtain⟨as,ra⟩:=cW.reads I q rv;exact⟨_,.list g rfl rfl (by simpa using ra)⟩
 | .tuple ds,v,u,h,r=>by obtain⟨a,vs,rfl,_,e,q⟩:=eP.mp h;cases(show u=Value.ref a from r);obtain⟨_,bV,rv,o,g,c,_,n,dt⟩:=I.dh a _ e;obtain⟨as,ra⟩:=cW.reads I q rv;exact⟨_,.tuple g c dt (by simpa using ra)⟩
 | .dict _,_,_,h,_=>by unfold Tells at h;exact h.elim
def cW.reads (I:Inv X ac U H s) {k:aq}:∀{ds:List PyData}{vs:Aac}{us:Aad},cW H k ds vs->cx vs us->∃as,ReadsAll s.heap us ds as
 | [],_,us,h,r=>by rw[fL] at h;subst h;cases r;exact⟨_,.nil⟩
 |d::ds,_,us,h,r=>by
  obtain⟨w,rr,rfl,q1,q2⟩:=cy.mp h;cases r with
  |cons r1 r2=>obtain⟨as,a1⟩:=Tells.reads I q1 r1;obtain⟨bs,a2⟩:=cW.reads I q2 r2;exact⟨_,.cons a1 a2⟩
end
def tyName:PyData->String
 | .none=>"NoneType"
 | .bool _=>"bool"
 | .int _=>"int"
 | .str _=>"str"
 | .list _=>"list"
 | .tuple _=>"tuple"
 | .dict _=>"dict"
def Tells.ty {H}{K:Φ}:∀{d:PyData}{v:V},Tells H k d v->rM K H v (.type (tyName d))
 | .none,v,h=>by rw[pP] at h;subst h;exact .e_
 | .bool b,v,h=>by rw[uF] at h;subst h;exact .bl b
 | .int i,v,h=>by rw[iw] at h;subst h;exact .int i
 | .str x,v,h=>by rw[gU] at h;subst h;exact .str x
 | .list ds,v,h=>by obtain⟨a,vs,rfl,_,e,q⟩:=pO.mp h;exact .lst e
 | .tuple ds,v,h=>by obtain⟨a,vs,rfl,_,e,q⟩:=eP.mp h;exact .tup e
 | .dict _,_,h=>by unfold Tells at h;exact h.elim
def wL:PyData->String->Bool
 | .bool _,n=>n=="bool"||n=="int"
 |d,n=>n==tyName d
def Ll (K:Φ) (d:PyData) (n:String) (hd:∀kvs,d≠.dict kvs) (hn:n="int"\/n="bool"\/n="str"\/n="tuple"\/n="list"):PySem.W.kitOne K (.type (tyName d)) (.type n)=some (wL d n):=by rcases hn with rfl|rfl|rfl|rfl|rfl<;>cases d<;>first|exact absurd rfl (hd _)|rfl|decide+kernel
def VR:Aac->Hp->VK->Prop:=λxs H Q=>∃k x n d,xs=[x,.ty n]/\Tells H k d x/\(n="int"\/n="bool"\/n="str"\/n="tuple"\/n="list")/\Q (.bl (wL d n)) H
def lH:dR X (.builtin "isinstance") VR:=by intro ac s U H xs us Q I r h;obtain⟨k,x,n,d,rfl,t,hn,q⟩:=h;obtain⟨u,u',rfl,r1,r2⟩:=vals2 r;cases(show u'=Value.type n from r2);refine wx I r1 t.ty (Ll _ d n (λkvs e=>?_) hn) λtk=>⟨.bl _,H,I.tok tk,rfl,q⟩;subst e;unfold Tells at t;exact t
def Lay (d:PyData):Prop:=d.canLay0=true/\d.depth<=20
def QO (hu:X.A.units+64<cLine):gT X (compareOp .Eq) (λx y H Q=>∃k k' dx dy,Tells H k dx x/\Tells H k' dy y/\Lay dx/\Lay dy/\Q (.bl (PyData.eqv dx dy)) H):=by intro ac s U H x y v u Q I rx ry h;obtain⟨k,k',dx,dy,tx,ty,lx,ly,q⟩:=h;obtain⟨as,ax⟩:=tx.reads I rx;obtain⟨bs,ay⟩:=ty.reads I ry;refine SeqAt.compareEq_reads ax ay lx.1 ly.1 ?_ ⟨.bl _,H,I,rfl,q⟩;have:=lx.2;have:min dx.depth dy.depth<=dx.depth:=mK _ _;omega
def QP (hu:X.A.units+64<cLine):gT X (compareOp .NotEq) (λx y H Q=>∃k k' dx dy,Tells H k dx x/\Tells H k' dy y/\Lay dx/\Lay dy/\Q (.bl (!PyData.eqv dx dy)) H):=by intro ac s U H x y v u Q I rx ry h;obtain⟨k,k',dx,dy,tx,ty,lx,ly,q⟩:=h;obtain⟨as,ax⟩:=tx.reads I rx;obtain⟨bs,ay⟩:=ty.reads I ry;refine SeqAt.compareNe_reads ax ay lx.1 ly.1 ?_ ⟨.bl _,H,I,rfl,q⟩;have:=lx.2;have:min dx.depth dy.depth<=dx.depth:=mK _ _;omega
def room_in (h:u+64<cLine) (hb:b<=20):u+1+min a b<cLine:=by have:min a b<=b:=rj _ _;omega
def aaD (neg:Bool):R2:=λx y H Q=>∃k k' d ds,Tells H k d x/\(Tells H k' (.tuple ds) y\/Tells H k' (.list ds) y)/\Lay d/\PyData.canLayAll0 ds=true/\Q (.bl (if neg then !(ds.any λz=>PyData.eqv z d) else ds.any λz=>PyData.eqv z d)) H
def QQ (hu:X.A.units+64<cLine):gT X (compareOp .In) (aaD false):=by
 intro ac s U H x y v u Q I rx ry h;obtain⟨k,k',d,ds,tx,ty,l,ls,q⟩:=h;obtain⟨as,ax⟩:=tx.reads I rx;rcases ty with ty|ty
 .obtain⟨bs,ay⟩:=ty.reads I ry;exact SeqAt.in_tuple_reads ay ax ls l.1 (room_in hu l.2) ⟨.bl _,H,I,rfl,q⟩
 .obtain⟨bs,ay⟩:=ty.reads I ry;exact SeqAt.in_list_reads ay ax ls l.1 (room_in hu l.2) ⟨.bl _,H,I,rfl,q⟩
section
variable {tg:Expr}
def QR (x:Str):It:=⟨λi _=>i<x.cps.size,λi H y H'=>H'=H/\∃c,x.cps[i]?=some c/\y=.str ⟨#[c]⟩,λi _=>i=x.cps.size⟩
def wM {P:aQ}{w:bg}{K:Φ}{x:Str}{it:aq}{St:Nat->Heap->Prop}{n:String}(hn:["enumerate","zip","dict_itemiterator","dict_reverseitemiterator","odict_iterator","itertools.zip_longest","itertools.pairwise"].contains n=false) (hw:∀A':bL,A'.handled=none->Walks P w A' it [it] [it] x.cps.size (SignAt x) St) (hs:∀i h,St i h->∃o vs,h.get? it=some o/\o.cls=.type n/\o.data=.fields vs) (VS:∀(A:bL) (i:Nat) (s:ar) (Q:Aaf) (E:Aaf),St i s.heap->Q (.ref it) s->wpAny (model P w) A (pyIter (.ref it)) Q E s):Turn P w K tg (QR x) [it] it St where
 mem:=ς
 obj:=λi h st b hb=>by
  have e:b=it:=by simpa using hb
  subst e;obtain⟨o,vs,e,c,d⟩:=hs i h st;exact⟨o,e,λv z=>by rw[d] at z;cases z⟩
 keep:=λi h h' st k=>(hw {} rfl).frame i h h' st k
 item:=by intro X hP hw' hK hc i ac s U H E I hf st hg;subst hP hw' hK;obtain⟨f0,f1,f2,f3,f4,f5⟩:=hf it ς;refine(hw X.A (I.ok.hd hc)).item i s _ _ hg st λv h' tk hv oG kk=>?_;obtain⟨c,u,ze,rfl⟩:=hv;have I1:Inv X ac U H {s with heap:=h',toks:=tk}:=I.turned (λb o hb e=>kk b o (by simpa using hb) e) f0 f1 f3 f4 f5;obtain⟨o,vs,e,c2,d⟩:=hs _ _ oG;exact⟨_,rfl,CS (s:={s with heap:=h',toks:=tk}) e c2 d hn ⟨.str ⟨#[c]⟩,H,I1,⟨u,rfl⟩,⟨rfl,c,ze,rfl⟩,oG,λb hb=>(hf b hb).1⟩⟩
 done:=by intro X hP hw' hK hc i ac s U H E I hf st hg;subst hP hw' hK;obtain⟨f0,f1,f2,f3,f4,f5⟩:=hf it ς;have ZL:i=x.cps.size:=hg;subst ZL;exact(hw X.A (I.ok.hd hc)).done s _ _ st λh' tk kk=>⟨rfl,I.turned (λb o hb e=>kk b o (by simpa using hb) e) f0 f1 f3 f4 f5⟩
 self:=VS
def aaE (tl:TE):TI:=λU H R=>tl U H λx H1=>∃y,x=.str y/\R (QR y) H1
def QS (hl:PE X l tl):PI X tg l (aaE tl):=by
 intro ac s U H R I h;refine dq (hl ac s U H _ I h) λv s1 fh=>?_;obtain⟨x,H1,I1,r1,q1⟩:=fh;obtain⟨y,e,q⟩:=q1;subst e;obtain⟨t,rfl⟩:=r1;have fin:∀(o:Obj) (St:Nat->Heap->Prop),Turn X.prog X.w X.K tg (QR y) [s1.heap.objs.size] s1.heap.objs.size St->St 0 (s1.heap.push o)->PIE X ac U tg R (.ref s1.heap.objs.size) {s1 with heap:=s1.heap.push o}:=λo St T st=>by
  refine⟨s1.heap.objs.size,[s1.heap.objs.size],St,_,H1,rfl,I1.kept (t':=s1.toks) λb o e=>af _ e,T,st,λb hb=>?_,q⟩;have e:b=s1.heap.objs.size:=by simpa using hb
  subst e;exact I1.pL (ao _) (I1.dh.fresh (ao _))
 cases ha:y.cps.all (· <128)
 .refine wpAny_pyIter_wide ha (fin _ _ (wM (n:="str_iterator") δ (λA' hA=>Walks.strWide hA _ y t) (λi h fh=>?_) λ_ _ _ _ _ st hQ=>wpAny_pyIter_striter_wide st hQ) ⟨_,av _ rfl,rfl,rfl⟩);obtain⟨o,e,c,d⟩:=fh;exact⟨o,_,e,c,d⟩
 .refine wpAny_pyIter_ascii ha (fin _ _ (wM (n:="str_ascii_iterator") δ (λA' hA=>Walks.strAscii hA _ y t) (λi h fh=>?_) λ_ _ _ _ _ st hQ=>wpAny_pyIter_striter_ascii st hQ) ⟨_,av _ rfl,rfl,rfl⟩);obtain⟨o,e,c,d⟩:=fh;exact⟨o,_,e,c,d⟩
def wN:gT X (compareOp .LtE) (λx y H Q=>∃i j,x=.str i/\y=.str j/\Q (.bl (!decide (j.cps.toList<i.cps.toList))) H):=by intro ac s U H x y v u Q I rx ry h;obtain⟨i,j,rfl,rfl,q⟩:=h;obtain⟨t,rfl⟩:=rx;obtain⟨t',rfl⟩:=ry;exact PySem.P.le_str ⟨.bl _,H,I,rfl,q⟩
def zC (hc:X.calm=true):dR X (.builtin "all") (λxs H Q=>∃(p:aq) (bs:List Bool),xs=[.ref p]/\gj X.K H p (bs.map V.bl)/\Q (.bl (bs.all id)) H):=by
 intro ac s U H xs us Q I r h;obtain⟨p,bs,rfl,hq,q⟩:=h;obtain⟨u,rfl,rx⟩:=mB r;cases(show u=Value.ref p from rx);obtain⟨bV,rv,pl,hz⟩:=I.list hq;have ie:p<s.heap.objs.size:=by obtain⟨o,e,_⟩:=pl.isList;exact aG e
 refine call_all_walk (dQ pl.isList ?_);refine⟨s.heap.objs.size,_,_,bV.toArray.size,_,_,λi=>bs.getD i false,rfl,jG (prog:=X.prog) (w:=X.w) (A:=X.A.in1) (I.ok.hd hc) s.heap.objs.size p (aW ie) bV.toArray,⟨⟨_,av _ rfl,rfl,rfl⟩,pl.isList.at λo e=>af _ e⟩,?_,λh' tk hk=>?_⟩
 .intro i v s' Q' E' hP hQ;have mG:bV[i]?=some v:=by simpa using hP
  have hl:=rv.length;rw[ah] at hl;have hi:i<bV.length:=(aF.mp mG).1;obtain⟨u,hu,ru⟩:=rv.get (i:=i) (x:=V.bl (bs.getD i false)) (by rw[aR,ag ω];simp[List.getD,ag (show i<bs.length by omega)]);rw[mG] at hu;cases hu;cases(show v=Value.bool _ from ru);exact bB hQ
 .refine⟨.bl _,H,I.kept λb o e=>hk b o (by simpa using aW (aG e)) (af _ e),rfl,?_⟩;have hl:=rv.length;rw[ah] at hl;have e:(List.range bV.toArray.size).all (λi=>bs.getD i false)=bs.all id:=by
   rw[aC,<-hl];have:(List.range bs.length).map (λi=>bs.getD i false)=bs:=by
    apply Es
    .simp
    .intro i h1 h2;simp[List.getD,ag h2]
   conv=>rhs;rw[<-this]
   rw[List.all_map];rfl
  rw[e];exact q
def cx.insertAt (r:cx xs us) (ry:RelV y u) (k:Nat):cx (xs.take k++y::xs.drop k) (us.take k++u::us.drop k):=(r.take k).append (.cons ry (r.drop k))
def EL:VM X "list.insert" (λx vs H Q=>∃l xs i y,x=.ref l/\vs=[.int i,y]/\H l=some (.lst xs)/\xs.length<sizeLine/\0<=i/\i<=xs.length/\Q .e_ (upd H l (.lst (xs.take i.toNat++y::xs.drop i.toNat)))):=by
 intro ac s U H x vs v us Q I rx rv h;obtain⟨l,xs,i,y,rfl,rfl,hH,hz,h0,h1,q⟩:=h;cases rx;obtain⟨ui,u,rfl,ri,ru⟩:=rv.two;obtain⟨t,rfl⟩:=ri;obtain⟨z,bV,n,r,hl,e⟩:=I.zw hH;have hs:sizeLine=16777216:=kW;have hf:Builtin.List.listFitsIndex i=true:=fitsIndex_both ω ω;refine Gs F.slot_list_insert ⟨_,e,rfl⟩ F.entry_list_insert (F.args_list_insert_3 _ _ _) (AutoSeq1.list_insert_list_int_val_1 l bV.toArray n i t u (by rw[hf];simp) (by rw[aC];omega)) ⟨e,?_⟩;have tl:i.toNat<=bV.length:=by rw[<-r.length];exact U_.mpr h1
 refine⟨.e_,_,I.He (its':=bV.take i.toNat++u::bV.drop i.toNat) hH e ?_ (cx.insertAt r ru i.toNat) ?_,rfl,q⟩
 .dsimp only;rw[aI (Int.not_lt.mpr h0)];have e1:min i.toNat bV.toArray.size=i.toNat:=Nat.min_eq_left tl;rw[e1];apply Array.ext';simp;exact fQ ς
 .rw[aA,b_,bE,cK,Nat.min_eq_left (U_.mpr h1),<-Nat.add_assoc,jz (U_.mpr h1)];exact hz
end
mutual
def Gd:PyData->Nat
 | .list ds=>1+kU ds
 | .tuple ds=>1+kU ds
 | .none| .bool _| .int _| .str _| .dict _=>1
def kU:List PyData->Nat
 | []=>0
 |d::ds=>Gd d+kU ds
end
mutual
def ig:PyData->Bool
 | .none| .bool _=>true
 | .int i=>decide (i.natAbs<2^200)
 | .str x=>decide (x.length<=100)&&PyData.strOk x
 | .list ds=>ix ds
 | .tuple ds=>ix ds
 | .dict _=>false
def ix:List PyData->Bool
 | []=>true
 |d::ds=>ig d&&ix ds
end
mutual
def zD:∀d:PyData,ig d=true->d.canLay0=true
 | .none,_=>by simp only[PyData.canLay0]
 | .bool _,_=>by simp only[PyData.canLay0]
 | .int _,_=>by simp only[PyData.canLay0]
 | .str x,h=>by rw[ig,cA] at h;simp only[PyData.canLay0];exact h.2
 | .list ds,h=>by rw[ig] at h;simp only[PyData.canLay0];exact nu ds h
 | .tuple ds,h=>by rw[ig] at h;simp only[PyData.canLay0];exact nu ds h
 | .dict _,h=>by rw[ig] at h;cases h
def nu:∀ds:List PyData,ix ds=true->PyData.canLayAll0 ds=true
 | [],_=>by simp only[PyData.canLayAll0]
 |d::ds,h=>by rw[ix,cA] at h;rw[PyData.canLayAll0,cA];exact⟨zD d h.1,nu ds h.2⟩
end
def Lm {i:Int}(h:i.natAbs<2^200):i.natAbs.log2<200:=by
 by_cases h0:i.natAbs=0
 .rw[h0];decide+kernel
 .exact(Nat.log2_lt h0).mpr h
structure Bd (n p:Nat) (d:PyData):Prop where
 leaf:ig d=true
 w:Gd d<=n
 dp:d.depth<=p
abbrev QT (d:PyData):Prop:=Bd 1000 15 d
def Bd.mono (h:Bd n p d) (h1:n<=m) (h2:p<=q):Bd m q d:=⟨h.leaf,aB h.w h1,aB h.dp h2⟩
def Bd.lay (h:Bd n p d) (hp:p<=20):Lay d:=⟨zD d h.leaf,aB h.dp hp⟩
def QT.lay (h:QT d):Lay d:=Bd.lay h δ
def jE:∀{ds:List PyData},ix ds=true↔∀d∈ds,ig d=true
 | []=>by simp[ix]
 |d::ds=>by rw[ix,cA,jE];simp
def Ln (d:PyData):1<=Gd d:=by cases d<;>simp[Gd]
def xX:∀{ds:List PyData}{d:PyData},d∈ds->Gd d<=kU ds
 |e::ds,d,h=>by
  rw[kU];rcases aU.mp h with rfl|h
  .omega
  .have:=xX h;omega
def xY:∀ds:List PyData,ds.length<=kU ds
 | []=>bH _
 |d::ds=>by rw[kU,bE];have:=Ln d;have:=xY ds;omega
def rO:∀{ds:List PyData}{d:PyData},d∈ds->d.depth<=PyData.depthAll ds
 |e::ds,d,h=>by
  rw[PyData.depthAll];rcases aU.mp h with rfl|h
  .omega
  .have:=rO h;omega
def uG:∀{ds:List PyData},(∀d∈ds,Gd d<=n)->kU ds<=n*ds.length
 | [],_=>by simp[kU]
 |d::ds,h=>by rw[kU,bE,Nat.mul_succ];have h1:=h d bT;have h2:=uG λe he=>h e (bJ _ he);omega
def jn:∀{ds:List PyData},(∀d∈ds,d.depth<=p)->PyData.depthAll ds<=p
 | [],_=>by simp[PyData.depthAll]
 |d::ds,h=>by rw[PyData.depthAll];have h1:=h d bT;have h2:=jn λe he=>h e (bJ _ he);omega
def Bd.list (h:∀d∈ds,Bd n p d) (hl:ds.length<=m):Bd (1+n*m) (p+1) (.list ds):=by
 refine⟨by rw[ig];exact jE.mpr λd hd=>(h d hd).leaf,?_,?_⟩
 .rw[Gd];have:=uG λd hd=>(h d hd).w;have:=Nat.mul_le_mul_left n hl;omega
 .rw[PyData.depth];have:=jn λd hd=>(h d hd).dp;omega
def Bd.tuple (h:∀d∈ds,Bd n p d) (hl:ds.length<=m):Bd (1+n*m) (p+1) (.tuple ds):=by
 refine⟨by rw[ig];exact jE.mpr λd hd=>(h d hd).leaf,?_,?_⟩
 .rw[Gd];have:=uG λd hd=>(h d hd).w;have:=Nat.mul_le_mul_left n hl;omega
 .rw[PyData.depth];have:=jn λd hd=>(h d hd).dp;omega
def Bd.aaF (h:Bd n p (.list ds)):(∀d∈ds,Bd n p d)/\ds.length<=n:=by
 have h1:=h.leaf;have h2:=h.w;have h3:=h.dp;rw[ig] at h1;rw[Gd] at h2;rw[PyData.depth] at h3;refine⟨λd hd=>⟨jE.mp h1 d hd,?_,?_⟩,?_⟩
 .have:=xX hd;omega
 .have:=rO hd;omega
 .have:=xY ds;omega
def Bd.Lo (h:Bd n p (.tuple ds)):(∀d∈ds,Bd n p d)/\ds.length<=n:=by
 have h1:=h.leaf;have h2:=h.w;have h3:=h.dp;rw[ig] at h1;rw[Gd] at h2;rw[PyData.depth] at h3;refine⟨λd hd=>⟨jE.mp h1 d hd,?_,?_⟩,?_⟩
 .have:=xX hd;omega
 .have:=rO hd;omega
 .have:=xY ds;omega
def Bd.QU (h:Bd n p (.str x)):x.length<=100:=by have h1:=h.leaf;rw[ig,cA,decide_eq_true_eq] at h1;exact h1.1
def rP (h1:x.length<=100) (h2:PyData.strOk x=true):Bd 1 0 (.str x):=⟨by rw[ig,h2,aZ h1];rfl,by simp[Gd],by simp[PyData.depth]⟩
def nv (h:i.natAbs<2^200):Bd 1 0 (.int i):=⟨by rw[ig];exact aZ h,by simp[Gd],by simp[PyData.depth]⟩
def Hk {J:It}{n:Nat}{f:Nat->V}{g:TG}{te:TE}{kr:St}{H1:Hp}{Q:VK}{D:aq}(Iv:Nat->Aac->St->Hp->Prop) (hD:H1 D=none) (hn:n<=1000) (h0:Iv 0 [] kr (upd H1 D (.lst []))) (hj:∀i ys U H,i<=n->H D=some (.lst ys)->Iv i ys U H->(i=n->J.stop i H)/\(i<n->J.go i H/\∀x H',J.vR i H x H'->H'=H/\x=f i)) (hs:∀i ys U H,i<n->H D=some (.lst ys)->Iv i ys U H->g (f i) U H λcz H3=>te cz H3 λy H5=>H5 D=some (.lst ys)/\Iv (i+1) (ys++ [y]) cz (upd H5 D (.lst (ys++ [y])))) (hd:∀ys U H,H D=some (.lst ys)->Iv n ys U H->Q (.ref D) H):tj J g lF te kr H1 Q D:=Dg Iv hD hn h0 hj (λi ys U H h1 h2 h3=>hs i ys U H h1 h2 h3) hd
def ny {i0:Nat}{x0:Str}{pos' BH:Pos}{elt tg iter:Expr}{ifs:List Expr}{scope:Scope}{pos:Pos}{wi:TI}{N:Aab}{r:List (Option Nat)}{g:TG}{tc:TT}{te:TE}(hN:X.N.Nodup) (VT:X.N[i0]?=some x0) (hx:Loc X.env.scope x0) (hc:X.calm=true) (hi:PI X tg iter wi) (S:cY X scope N r) (hg:∀s H fp,PG (X.mD N scope s H fp) tg g) (ht:∀s H fp,C_ (X.mD N scope s H fp) ifs tc) (he:∀s H fp,PE (X.mD N scope s H fp) elt te) (VU:swapsWith (.ListComp elt [⟨tg,iter,ifs,0⟩] scope pos) (some (.Name x0 pos')) BH.line X.env=pure true:=by rfl) (hs:∀x,foldedSetIterable iter X.env x=pure x:=by intro _;rfl) (hf:X.fn x0=true\/X.env.scope.names.lookup x0=some .local:=by first|exact .inl rfl|exact .inr rfl|assumption):
  PS X (.Assign [.Name x0 pos'] (.ListComp elt [⟨tg,iter,ifs,0⟩] scope pos) BH) (Bl (tLC wi r g tc te) (d_ i0)):=by
 intro ac s U H DD I h;rw[y0 _ _ _ _ VU];refine aa (dP (aa ?_));show wpAny _ X.A (do let _<-comprehension (.ListComp elt [⟨tg,iter,ifs,0⟩] scope pos) scope X.env _ (newList []) false (eval iter X.env) (some (assign (.Name x0 pos') X.env))) _ _ s;refine aa (aN (?_:wpAny _ X.A _ (λ_ s'=>SP X ac DD .next s') _ s) (λ_ s' hq=>au (au hq)) λ_ _ e=>e);have zA:closureFor scope X.env=pure (eY scope X.env):=fO λy hy hk=>I.ok.has y.1 (S.out y hy hk);refine g9 (use:=some (assign (.Name x0 pos') X.env)) rfl hs zA S.kind S.own ?_;show wpAny _ _ (eval iter X.env) _ _ s;refine dq (hi ac s U H _ I h) λv s1 h1=>dq h1 λQn s2 h2=>?_;obtain⟨it,fp,tn,J,H2,e,I2,T,qb,f2,q2⟩:=h2;subst e;have hD:H2 s2.heap.objs.size=none:=I2.dh.fresh (ao _);obtain⟨W,⟨m0,w0⟩,turn⟩:=q2 _ hD;have mP:∀b∈fp,b<s2.heap.objs.size:=λb hb=>by obtain⟨o,e,_⟩:=T.obj _ _ qb b hb;exact aG e
 refine bS ?_;generalize uc:({s2 with heap:=s2.heap.push {cls:=.type "list",dict:=none,data:=.seq ([]:Aad).toArray}}:ar)=s3;have k3:∀b o,s2.heap.get? b=some o->s3.heap.get? b=some o:=λb o e=>by rw[<-uc];exact af _ e
 have z3:s3.heap.objs.size=s2.heap.objs.size+1:=by rw[<-uc];exact bP ..
 have u3:Un (nV X.stack) fp H2 (upd H2 s2.heap.objs.size (.lst [])) s2.heap s3.heap:=Un.laid k3 (ao _) hD;have o3:s3.os=s2.os:=by rw[<-uc]
 have I3:Inv X ac U (upd H2 s2.heap.objs.size (.lst [])) s3:=by rw[<-uc];exact I2.laid (t':=s2.toks) (λb u e=>af _ e) (ao _) ⟨bH _,[],0,.nil,av _ rfl⟩
 have f3:∀b∈fp,gn X ac (upd H2 s2.heap.objs.size (.lst [])) b:=λb hb=>⟨by rw[bN (aW (mP b hb))];exact(f2 b hb).1,(f2 b hb).2⟩;refine gS S.jm (by intro y hy;simp at hy) (λh4 xT xU=>?_) S.kind;have k4:∀b o,s3.heap.get? b=some o->h4.get? b=some o:=λb o e=>xU.extBut b o (aW (aG e)) (af _ e);have J4:Inv (X.mD N scope s3 (upd H2 s2.heap.objs.size (.lst [])) fp) [] (r.map (pick U)) (upd H2 s2.heap.objs.size (.lst [])) {s3 with heap:=h4,toks:=s3.toks+([]:List (Str×ai)).length}:=lG S I3 f3 (λb hb=>by rw[z3];exact b8 (mP b hb)) xT k4;have Dd:tn 0 h4:=T.keep _ _ _ qb λb _ o e=>k4 b o (k3 b o e);have kf:∀{H':Hp},(∀b∈fp,H' b=none)->∀b∈fp,gn (X.mD N scope s3 (upd H2 s2.heap.objs.size (.lst [])) fp) [] H' b:=λhn b hb=>
  ⟨hn b hb,(J4.ok.AY b hb).1,J4.ok.rF b hb,.inl hb,(J4.ok.AY b hb).2,λp hp=>absurd (show p∈([]:Aaa) from hp) ς⟩;generalize hY:X.mD N scope s3 (upd H2 s2.heap.objs.size (.lst [])) fp=Y at*;have loop:∀s4:ar,s4={s3 with heap:=h4,toks:=s3.toks+([]:List (Str×ai)).length}-> codeAny (model X.prog X.w) X.A (.compLoop (.ListComp elt [⟨tg,iter,ifs,0⟩] scope pos) 0 (.ref it) (.ref s2.heap.objs.size) Y.env) (compPost (model X.prog X.w) X.A X.xe (some (assign (.Name x0 pos') X.env)) (λ_ s'=>SP X ac DD .next s') (.ref s2.heap.objs.size) s3.heap.objs.size) s4:=by
  rintro s4 rfl;have yp:Y.prog=X.prog:=by rw[<-hY]
  have yw:Y.w=X.w:=by rw[<-hY]
  have yK:Y.K=X.K:=by rw[<-hY]
  have yA:Y.A=X.A:=by rw[<-hY]
  have yc:Y.calm=true:=by rw[<-hY];exact hc
  have Lf:PG Y tg g:=by rw[<-hY];exact hg _ _ _
  have Lg:C_ Y ifs tc:=by rw[<-hY];exact ht _ _ _
  have Lh:PE Y elt te:=by rw[<-hY];exact he _ _ _
  have yx:∀e s',¬Y.xe e s':=λe s' z=>by rw[<-hY] at z;exact z
  refine sE (λn s'=>∃i de H',Inv Y [] de H' s'/\tn i s'.heap/\(∀b∈fp,H' b=none)/\W i n de H') ?_ m0 ⟨0,_,_,J4,Dd,λb hb=>(f3 b hb).1,w0⟩;rintro n s5 ⟨i,ud,H5,I5,yV,AZ,w5⟩;rcases turn i n ud H5 w5 with⟨stop,qn⟩|⟨go,Nn,Mm,Kf,QM,step⟩
  .have d:=T.done Y yp yw yK yc i [] s5 ud H5 (notedBy (model X.prog X.w) X.A Y.env λe s'=>compPost (model X.prog X.w) X.A X.xe (some (assign (.Name x0 pos') X.env)) (λ_ s'=>SP X ac DD .next s') (.ref s2.heap.objs.size) s3.heap.objs.size (.error e) s') I5 (kf AZ) yV stop;rw[yA] at d;refine dq d λrr s6 fh=>?_;obtain⟨hr,I6⟩:=fh;subst hr;obtain⟨m,hn,_⟩:=id I6.loc;rw[<-hY] at I6 hn;have IX:Inv X ac U H5 s6:=qF I2 f2 u3 (by rw[z3];exact dg _) o3 I6 (KD _ _);have hC:H5 s3.heap.objs.size=none:=I6.free;obtain⟨f0,f1,f2',VW,f4,f5⟩:=I3.pL (ao _) hC;refine tQ (nX IX hN VT hx (show RelV (V.ref s2.heap.objs.size) _ from rfl) (λs7 I7 fh=>?_) hf);obtain⟨a,Hl,ha⟩:=fh;have VX:s3.heap.objs.size≠a:=by
    rcases ha with rfl|ha
    .exact f1
    .exact λz=>f4 _ _ ha z.symm
   refine⟨m,Va hn Hl VX,λh' Hi=>⟨_,H5,I7.turned (t':=s7.toks) (it:=s3.heap.objs.size) (λb o hb e=>Hi.extBut b o hb e) hC f1 VW f4 f5,qn⟩⟩
  .have d:=T.item Y yp yw yK yc i [] s5 ud H5 (notedBy (model X.prog X.w) X.A Y.env λe s'=>compPost (model X.prog X.w) X.A X.xe (some (assign (.Name x0 pos') X.env)) (λ_ s'=>SP X ac DD .next s') (.ref s2.heap.objs.size) s3.heap.objs.size (.error e) s') I5 (kf AZ) yV go;rw[yA] at d;refine dq d λrr s6 fh=>?_;obtain⟨u,hr,h6⟩:=fh;subst hr;refine dq h6 λ_ s7 fh=>?_;obtain⟨x,H7,I7,r7,y7,xV,Li⟩:=fh;have Lj:=I7.pinned (kf Li) (T.obj _ _ xV);have g7:=Lf _ s7 ud H7 x u _ Lj r7 (step x H7 y7);rw[yp,yw,yA] at g7;refine aN g7 (λ_ s8 fh=>?_) λe s' z=>(yx e s' z).elim;obtain⟨qc,H8,I8,q8⟩:=fh;have t8:=Lg _ s8 qc H8 _ I8 q8;rw[yp,yw,yA] at t8;refine aN t8 (λok s9 fh=>?_) λe s' z=>(yx e s' z).elim;obtain⟨H9,I9,q9⟩:=fh;have again:∀{jW:ar} {og:Hp} {m':Nat},Inv Y ([]++ke fp s7.heap) qc og jW->m'<n->W (i+1) m' qc og->∃m,m<n/\∃i de H',Inv Y [] de H' jW/\tn i jW.heap/\(∀b∈fp,H' b=none)/\W i m de H':=λ{jW og m'} rN hm wK=>by refine⟨m',hm,i+1,qc,og,rN.gf,T.keep _ _ _ xV λb hb o e=>(rN.pin (b,o) (aD _ (aD _ (eK hb e)))).1,λb hb=>?_,wK⟩;obtain⟨o,e,d⟩:=T.obj _ _ xV b hb;exact(rN.pin (b,o) (aD _ (aD _ (eK hb e)))).2.1
   cases ok with
   |false=>rw[aI ς] at q9⊢;obtain⟨m',hm,w9⟩:=Kf _ _ q9;exact again I9 hm w9
   |true=>rw[aJ rfl] at q9⊢;have e9:=Lh _ s9 qc H9 _ I9 q9;rw[yp,yw,yA] at e9;refine aN e9 (λuu jW fh=>?_) λe s' z=>(yx e s' z).elim;obtain⟨y,og,rN,OD,hM⟩:=fh;obtain⟨xs,m',QN,hz,hm,wK⟩:=QM _ _ _ hM;have a10:=n_ _ jW qc og (.ref s2.heap.objs.size) [y] (.ref s2.heap.objs.size) [uu] (λv Hq=>v=.e_/\Hq=upd og s2.heap.objs.size (.lst (xs++ [y]))) rN rfl (.cons OD .nil) ⟨_,xs,y,rfl,rfl,QN,hz,rfl,rfl⟩;rw[yp,yw,yA] at a10;refine aN a10 (λ_ De fh=>?_) λe s' z=>(yx e s' z).elim;obtain⟨_,ZK,Hj,_,_,VQ⟩:=fh;subst VQ;exact again Hj hm wK
 have Lk:Y.env={scope:=relabel scope X.env,locals:=s3.heap.objs.size,globals:=X.env.globals,cells:=eY scope X.env,qual:=X.env.qual,func:=none,code:=X.env.code,frame:=X.env.frame,builtins:=X.env.builtins}:=by rw[<-hY];rfl
 rw[Lk] at loop;exact xA (loop _ rfl) (T.self _ 0 _ _ _ Dd (loop _ rfl))
def Fr (H0:Hp) (D:aq) (H:Hp) (ds:List PyData) (vs:Aac):Prop:=∀k,(k=D\/∃o,H0 k=some o)->cW H k ds vs
def Inv.ue {h':Heap}{t':Nat}{fp:List aq}(I:Inv X ac U H s) (hf:∀b∈fp,gn X ac H b) (k:∀b o,b∉fp->s.heap.get? b=some o->h'.get? b=some o):Inv X ac U H {s with heap:=h',toks:=t'}:=by
 have away:∀b u,H b=some u->b∉fp:=λb u e z=>by rw[(hf b z).1] at e;cases e
 refine I.step (g':=s.gens) (d':=s.drawn) (ch:=fp) (λb hb=>⟨(hf b hb).2.2.2.1,(hf b hb).2.1,(hf b hb).2.2.2.2.1,(hf b hb).2.2.2.2.2⟩) (λb o _ _ hc e _=>k b o hc e) (λb o _ _ hc e _=>⟨o.slots,k b o hc e⟩) (λ_ _ _ _ n=>n) (λb o hc e=>⟨o,k b o hc e⟩) (λ_ _ e=>e) (λ_ _ _ e=>e) (λb ps e=>⟨#[],by rw[e];simp⟩) (λm hm=>?_) (λb u e=>?_) I.bare
 .obtain⟨o,es,ep,g_,rest⟩:=hm;exact⟨o,es,ep,k _ o (λz=>(hf _ z).2.1 rfl) g_,rest⟩
 .refine(I.dh b u e).vP (λc v hc q=>k c v ?_ q) (λ_ q=>q) λ_ _ q=>q;rcases hc with z|z
  .rw[z];exact away b u e
  .exact away c _ z
def Inv.out {h':Heap}{t':Nat}{fp:List aq}{xs:Aac}{us:Aad}(I:Inv X ac U H s) (hf:∀b∈fp,gn X ac H b) (lt:∀b∈fp,b<s.heap.objs.size) (r:cx xs us) (hz:xs.length<=sizeLine) (k:∀b o,b∉fp->s.heap.get? b=some o->h'.get? b=some o) (hT:h'.get? s.heap.objs.size=some {cls:=.type "tuple",data:=.seq us.toArray}):
  H s.heap.objs.size=none/\Inv X ac U (upd H s.heap.objs.size (.tup xs)) {s with heap:=h',toks:=t'}/\∀b∈fp,(upd H s.heap.objs.size (.tup xs)) b=none:=by
 have fresh:H s.heap.objs.size=none:=I.dh.fresh (ao _);have I1:Inv X ac U (upd H s.heap.objs.size (.tup xs)) {s with heap:=s.heap.push {cls:=.type "tuple",data:=.seq us.toArray},toks:=s.toks}:=I.laid (λb u e=>af _ e) (ao _) ⟨hz,us,r,⟨_,av _ rfl,rfl,rfl,_,rfl⟩⟩;have hf1:∀b∈fp,gn X ac (upd H s.heap.objs.size (.tup xs)) b:=λb hb=>⟨by rw[bN (aW (lt b hb))];exact(hf b hb).1,(hf b hb).2⟩;refine⟨fresh,I1.ue hf1 λb o hb e=>?_,λb hb=>(hf1 b hb).1⟩;by_cases z:b=s.heap.objs.size
 .subst z;have e':some ({cls:=.type "tuple",data:=.seq us.toArray}:Obj)=some o:=(av s.heap (o:={cls:=.type "tuple",data:=.seq us.toArray}) rfl).symm.trans e;rw[hT,e']
 .refine k b o hb ?_;have lt2:b<(s.heap.push {cls:=.type "tuple",data:=.seq us.toArray}).objs.size:=aG e;rw[bP] at lt2;have lt3:b<s.heap.objs.size:=dj (cN lt2) z;cases q:s.heap.get? b with
  |some o'=>have:=af ({cls:=.type "tuple",data:=.seq us.toArray}:Obj) q;rw[this] at e;exact e
  |none=>
   exfalso;have e2:(s.heap.push {cls:=.type "tuple",data:=.seq us.toArray}).get? b=none:=by first|exact Heap.Dh _ q lt3|simp[Heap.get?,Heap.push,Array.getElem?_push,aW lt3] at q⊢;exact q
   rw[e2] at e;cases e
def mh (a1:s.heap.IsTupleIter J t n) (a2:s.heap.IsTuple t vs) (a3:vs[n]?=some y) (q:∀h',h'.IsTupleIter J t (n+1)->Heap.SameBut J s.heap h'->Q y {s with heap:=h'}):wpAny (model prog w) A (Builtin.SmallTypes.nextOf (.ref J)) Q E s:=by obtain⟨jo,j1,j2,j3⟩:=id a1;obtain⟨to,t1,_,tn,t2⟩:=a2;unfold Builtin.SmallTypes.nextOf;refine aa (fU (name:=Str.ofString "__next__") a1.typeIs jH (hX jH a1.typeIs F.entry_tuple_iterator_next ?_ (Vb _)));refine(aa (dW j1 j3 (x:=.ref t) rfl ?_):wpAny _ _ (field (.ref J) 0>>=_) _ _ s);refine(?_:wpAny _ _ (if(Value.ref t==Value.none)=true then _ else _) _ _ s);rw[aI ς];refine(aa (dW j1 j3 (x:=.int n 0) rfl ?_):wpAny _ _ (field (.ref J) 1>>=_) _ _ s);refine(aa (b7 t1 t2 ?_):wpAny _ _ (seqItems? (.ref t)>>=_) _ _ s);simp only[a3,A6];exact aa (rq j1 j3 ς (au ⟨y,rfl,au (q _ ⟨_,cF _ j1 (mU (rA j3 _)),(Obj.cls_mapFields ..).trans j2,by rw[rA j3];simp[rawInt]⟩ (Heap.SameBut.update ..))⟩))
def rQ (free:A.handled=none) (a1:s.heap.IsTupleIter J t n) (a2:s.heap.IsTuple t vs) (a3:vs[n]?=none) (q:∀h' x,Heap.ExtBut J s.heap h'->(∃o,h'.get? x=some o/\o.cls=.type "StopIteration")->E (.ref x) {s with heap:=h'}):wpAny (model prog w) A (Builtin.SmallTypes.nextOf (.ref J)) Q E s:=by
 obtain⟨jo,j1,j2,j3⟩:=id a1;obtain⟨to,t1,_,tn,t2⟩:=a2;unfold Builtin.SmallTypes.nextOf;refine aa (fU (name:=Str.ofString "__next__") a1.typeIs jH (hX jH a1.typeIs F.entry_tuple_iterator_next ?_ (Vb _)));refine(aa (dW j1 j3 (x:=.ref t) rfl ?_):wpAny _ _ (field (.ref J) 0>>=_) _ _ s);refine(?_:wpAny _ _ (if(Value.ref t==Value.none)=true then _ else _) _ _ s);rw[aI ς];refine(aa (dW j1 j3 (x:=.int n 0) rfl ?_):wpAny _ _ (field (.ref J) 1>>=_) _ _ s);refine(aa (b7 t1 t2 ?_):wpAny _ _ (seqItems? (.ref t)>>=_) _ _ s);simp only[a3,A6];refine aa (m5 (aa (rq j1 j3 ς ?_)));refine(aa ?_:wpAny _ _ (newExc (.type "StopIteration") []>>=_) _ _ _);simp only[newTuple,newExc];refine aa (bS (aa (m:=firstArgMember _ _) (tU (a:=Value.none) (by first|rfl|(simp only[firstArgMember];rfl)) (bS ?_ (by size_fits)))) (by size_fits));simp only[raiseNew];refine aa (wpAny_handled ?_);first|rw[show A.in1.handled=none from free]|rw[free]
 exact aa (au (wpAny_throw (q _ _ (((Heap.SameBut.update ..).extBut.push _).push _) ⟨_,av _ rfl,rfl⟩)))
def Hm {prog:aQ}{w:bg}{A:bL}(free:A.handled=none) (J t:aq) (ne:t≠J) (vs:Array ai):
  Draws prog w A J [J,t] vs.size (λi v=>vs[i]?=some v) (λi h=>h.IsTupleIter J t i/\h.IsTuple t vs) where
 live:=λ_ _ st=>by obtain⟨⟨o,e,_⟩,_⟩:=st;exact⟨o,e⟩
 frame:=λ_ _ _ st kp=>by obtain⟨⟨o,e1,e2,e3⟩,⟨o',UA,Dc,e3'⟩⟩:=st;exact⟨⟨o,kp J ς o e1,e2,e3⟩,⟨o',kp t ς o' UA,Dc,e3'⟩⟩
 item:=λi s Q E lt st q=>mh st.1 st.2 (y:=vs[i]) (by simp[lt]) λh' b1 b2=>q _ h' s.toks (by simp[lt]) ⟨b1,st.2.extBut b2.extBut ne⟩ b2
 done:=λs Q E st q=>rQ free st.1 st.2 ς q
def zE (t:aq) (o:Obj) (vs:Array ai) (n:Nat) (hc:o.cls=.type "tuple") (hd:o.data=.seq vs n):
  Meets (Builtin.«enumerate.__new__» ⟨[.type "enumerate",.ref t],[]⟩) (λ_ R s=>s.heap.get? t=some o/\ R (.ok (.ret (.ref (s.heap.push {cls:=.type "tuple_iterator",data:=.fields #[.ref t,.int 0 0]}).objs.size))) {s with heap:=(s.heap.push {cls:=.type "tuple_iterator",data:=.fields #[.ref t,.int 0 0]}).push {cls:=.type "enumerate",data:=.fields #[.none,.bool false,.ref s.heap.objs.size,rawInt 0,.none,.none]}}):=
 .of_wp λprog w A R s h=>by
  obtain⟨hp,g,d,tk,os⟩:=s;obtain⟨g_,h⟩:=h;have EM:=sub_enumerate;have wL:Heap.IsTuple (Shared.heap ⟨hp,g,d,tk,os⟩) t vs:=⟨_,g_,hc,n,hd⟩;obtain⟨oc,od,oda,qy⟩:=o;cases(show oc=Value.type "tuple" from hc);cases(show oda=Data.seq vs n from hd)
  wp_walk using fJ g_
  refine wpAny_stack_any λst=>au ?_;split
  .rename_i c _ _ _ _ _;cases(c==Value.type "enumerate")<;>(wp_walk using fJ g_,gG wL;exact⟨_,rfl,h⟩)
  .wp_walk using fJ g_,gG wL
   exact⟨_,rfl,h⟩
def BI (wL:s.heap.IsTuple t vs) (q:∀h',IsEnum h' (s.heap.objs.size+1) s.heap.objs.size 0 .none->h'.IsTupleIter s.heap.objs.size t 0->(∀b o,s.heap.get? b=some o->h'.get? b=some o)->Q (.ref (s.heap.objs.size+1)) {s with heap:=h'}):
  wpAny (model prog w) A (call (.type "enumerate") [.ref t]) Q E s:=by
 obtain⟨o,g_,hc,n,hd⟩:=wL;refine callType_new F.called_enumerate δ (F.typeCall_enumerate_1 _) (F.newCall_enumerate_1 _) (λobj=>F.args_object_init_2 obj _) F.entry_enumerate_new (zE t o vs n hc hd) ⟨g_,?_⟩;have sz:(s.heap.push {cls:=.type "tuple_iterator",data:=.fields #[.ref t,.int 0 0]}).objs.size=s.heap.objs.size+1:=bP ..;refine(?_:_/\_);rw[sz];have Hn:IsEnum ((s.heap.push {cls:=.type "tuple_iterator",data:=.fields #[.ref t,.int 0 0]}).push {cls:=.type "enumerate",data:=.fields #[.none,.bool false,.ref s.heap.objs.size,rawInt 0,.none,.none]}) (s.heap.objs.size+1) s.heap.objs.size 0 .none:=by rw[<-sz];exact av _ rfl
 exact⟨⟨_,Hn,rfl⟩,q _ Hn ⟨_,af _ (av _ rfl),rfl,rfl⟩ λb o e=>af _ (af _ e)⟩
def Ite (K:Φ) (a:aq):It:=⟨λi H=>∃xs x,iY K H a xs/\xs[i]?=some x,λi H y H'=>∃T x,H T=none/\y=.ref T/\H'=upd H T (.tup [.int i,x])/\∀xs,iY K H a xs->xs[i]?=some x,λi H=>∃xs,iY K H a xs/\i=xs.length⟩
def BJ {P:aQ}{w:bg}{K:Φ}{elts:List Expr}{kk:Nat}{tp:Pos}(a e it:aq) (QV:e≠it):Turn P w K (.Tuple elts kk tp) (Ite K a) [e,it] e (λi h=>(∃old,IsEnum h e it i old)/\h.IsTupleIter it a i) where
 mem:=ς
 obj:=λi h st b hb=>by
  obtain⟨⟨old,e1⟩,⟨o,o1,o2,o3⟩⟩:=st;simp only[aU,bF,eE] at hb;rcases hb with rfl|rfl
  .exact⟨_,e1,λv z=>by have z':Data.fields _=Data.cell v:=z;cases z'⟩
  .exact⟨o,o1,λv z=>by rw[o3] at z;cases z⟩
 keep:=λi h h' st kp=>by obtain⟨⟨old,e1⟩,⟨o,o1,o2⟩⟩:=st;exact⟨⟨old,kp e ς _ e1⟩,⟨o,kp it ς o o1,o2⟩⟩
 item:=by
  intro X hP hw hK hc i ac s U H E I hf st hg;subst hP hw hK;obtain⟨xs,x,hq,hx⟩:=hg;obtain⟨bV,rv,p,hz⟩:=I.tuple hq;obtain⟨u,hu,ru⟩:=rv.get hx;obtain⟨⟨old,e1⟩,qb⟩:=st;obtain⟨jo,j1,j2,j3⟩:=id qb;have p':s.heap.IsTuple a bV.toArray:=p;obtain⟨to,t1,t2,_⟩:=id p';have Ka:a≠it:=λz=>by rw[z,j1] at t1;cases t1;rw[j2] at t2;exact absurd t2 δ
  have nea:e≠a:=λz=>by rw[<-z,e1] at t1;cases t1;exact absurd (show Value.type "enumerate"=Value.type "tuple" from t2) δ
  have lt:∀b∈[e,it],b<s.heap.objs.size:=λb hb=>by
   simp only[aU,bF,eE] at hb;rcases hb with rfl|rfl
   .exact aG e1
   .exact aG j1
  have ZM:i<bV.length:=(aF.mp hu).1;refine wpAny_pyNext_enum_itemD (Hm (A:=X.A.in1) (I.ok.hd hc) it a Ka bV.toArray) e1 ⟨qb,p'⟩ (by simpa using ZM) QV (by simp[QV,nea]) λx' h' tk hP ho QW hT hsz hk=>?_;have ex:x'=u:=by
   have:bV[i]?=some x':=by simpa using hP
   rw[hu] at this;exact(bf this).symm
  subst ex;refine⟨_,rfl,wpAny_letOwnedTupleGo_enum ho λh2 he2 Lp=>?_⟩;have nT:s.heap.objs.size≠e:=fc (lt e ς);obtain⟨f1,f2,f3⟩:=I.out (h':=h2) (t':=tk+1) (xs:=[.int i,x]) (us:=[.int i tk,x']) hf lt (.cons ⟨tk,rfl⟩ (.cons ru .nil)) (Bh) (λb o hb q=>(Lp.2 b (λz=>hb (by simp[z]))).trans (hk b o (λz=>hb (by simp[z])) (λz=>hb (by simp[z])) q)) ((Lp.2 _ nT).trans hT);obtain⟨⟨io,i1,i2⟩,_⟩:=QW;exact⟨.ref s.heap.objs.size,_,f2,rfl,⟨_,x,f1,rfl,rfl,λys hy=>by rw[I.nZ hy hq];exact hx⟩,⟨⟨x',by simpa using he2⟩,⟨io,(Lp.2 it QV.symm).trans i1,i2⟩⟩,f3⟩
 done:=by
  intro X hP hw hK hc i ac s U H E I hf st hg;subst hP hw hK;obtain⟨xs,hq,hx⟩:=hg;obtain⟨bV,rv,p,hz⟩:=I.tuple hq;obtain⟨⟨old,e1⟩,qb⟩:=st;obtain⟨jo,j1,j2,j3⟩:=id qb;have p':s.heap.IsTuple a bV.toArray:=p;obtain⟨to,t1,t2,_⟩:=id p';have Ka:a≠it:=λz=>by rw[z,j1] at t1;cases t1;rw[j2] at t2;exact absurd t2 δ
  have hl:=rv.length;have ei:i=bV.toArray.size:=by rw[aC];omega
  refine wpAny_pyNext_enum_endD (Hm (A:=X.A.in1) (I.ok.hd hc) it a Ka bV.toArray) e1 (by rw[<-ei];exact⟨qb,p'⟩) λh' eb=>⟨rfl,I.ue (t':=s.toks) hf λb o hb q=>eb b o (λz=>hb (by simp[z])) q⟩
 self:=λ_ _ _ _ _ st q=>by obtain⟨⟨old,e1⟩,_⟩:=st;exact tV e1 q
def uH:bootBuiltins "enumerate"=some (.type "enumerate"):=η
def fC (x:h.IsTupleIter a t i) (sb:Heap.SameBut b h h') (n:a≠b):h'.IsTupleIter a t i:=x.extBut sb.extBut n
def iU (x:h.IsTuple a vs) (sb:Heap.SameBut b h h') (n:a≠b):h'.IsTuple a vs:=x.extBut sb.extBut n
def EN {z TI TO i1 i2 t1 t2:aq}{n1 n2:Nat}{xs ys:Array ai}{x y a b:ai}{Q:Aaf}(D:ZipApart z TI TO i1 i2 t1 t2) (c1:IsZip s.heap z TI TO .none) (c2:IsPair s.heap TI (.ref i1) (.ref i2)) (c3:IsPair s.heap TO a b) (c4:s.heap.IsTupleIter i1 t1 n1) (c5:s.heap.IsTupleIter i2 t2 n2) (c6:s.heap.IsTuple t1 xs) (c7:s.heap.IsTuple t2 ys) (c8:xs[n1]?=some x) (c9:ys[n2]?=some y) (q:∀h',IsZip h' z TI TO (rawInt s.heap.objs.size)->IsPair h' TO x y->h'.IsTupleIter i1 t1 (n1+1)->h'.IsTupleIter i2 t2 (n2+1)->IsPair h' s.heap.objs.size x y->(∀c o,c≠z->c≠TO->c≠i1->c≠i2->s.heap.get? c=some o->h'.get? c=some o)->Q (.ref s.heap.objs.size) {s with heap:=h'}):
  wpAny (model prog w) A (Builtin.«zip.__next__» ⟨[.ref z],[]⟩) (λfin s'=>∃v,fin=.done (.ret v)/\Q v s') E s:=by
 refine(aa (dW c1 rfl (x:=.bool false) rfl ?_):wpAny _ _ (field (.ref z) 2>>=_) _ _ _);refine(aa (dW c1 rfl (x:=.ref TI) rfl ?_):wpAny _ _ (field (.ref z) 3>>=_) _ _ _);refine aa (b7 c2 rfl ?_);refine(aa ?_:wpAny _ _ (Builtin.SmallTypes.ownedTupleIsFree (.ref z)>>=_) _ _ _);unfold Builtin.SmallTypes.ownedTupleIsFree;refine aa (dW c1 rfl (x:=.none) rfl (au ?_));simp only[jg];refine aa (m5 ?_);refine aa (dW c1 rfl (x:=.ref TO) rfl ?_);refine aa (iN c1 ς λg1 k1 s1=>?_);have k1:IsZip g1 z TI TO .ellipsis:=k1;refine aa ?_;simp only[tT,KE,List.zipIdx_cons,List.zipIdx_nil];refine aa (aa (F9 ?_));show wpAny _ _ (Builtin.SmallTypes.nextOf (.ref i1)>>=_) _ _ _;refine aa (mh (fC c4 s1 D.i1z) (iU c6 s1 D.l1z) c8 λg2 k2 s2=>au ?_);have o2:IsPair g2 TO a b:=s2.extBut _ _ D.TOi1 (s1.extBut _ _ D.TOz c3);refine aa (b7 o2 rfl ?_);refine aa (A8 o2 λg3 o3 s3=>?_);refine aa (dX (au ?_));have o3:IsPair g3 TO x b:=o3;refine aa (aa (F9 ?_));show wpAny _ _ (Builtin.SmallTypes.nextOf (.ref i2)>>=_) _ _ _;refine aa (mh (fC (fC (fC c5 s1 D.i2z) s2 D.i12.symm) s3 D.TOi2.symm) (iU (iU (iU c7 s1 D.l2z) s2 D.l2i1) s3 D.l2TO) c9 λg4 k4 s4=>au ?_);have o4:IsPair g4 TO x b:=s4.extBut _ _ D.TOi2 o3;refine aa (b7 o4 rfl ?_);refine aa (A8 o4 λg5 o5 s5=>?_);refine aa (dX (au (au ?_)));have o5:IsPair g5 TO x y:=o5;refine aa (b7 o5 rfl ?_);refine aa (wpAny_newTuple ?_);have sz:g5.objs.size=s.heap.objs.size:=by rw[s5.1,s4.1,s3.1,s2.1,s1.1]
 have z5:IsZip g5 z TI TO .ellipsis:=s5.extBut _ _ D.TOz.symm (s4.extBut _ _ D.i2z.symm (s3.extBut _ _ D.TOz.symm (s2.extBut _ _ D.i1z.symm k1)));have j1:g5.IsTupleIter i1 t1 (n1+1):=fC (fC (fC k2 s3 D.TOi1.symm) s4 D.i12) s5 D.TOi1.symm;have j2:g5.IsTupleIter i2 t2 (n2+1):=fC k4 s5 D.TOi2.symm;have zl:z<g5.objs.size:=aG z5;refine(aa ?_:wpAny _ _ (Builtin.SmallTypes.ownedTupleHandOut (.ref z) (.ref g5.objs.size)>>=_) _ _ _);unfold Builtin.SmallTypes.ownedTupleHandOut;refine aa (iN (af _ z5) ς λg7 z7 s7=>?_);have z7:IsZip g7 z TI TO (rawInt g5.objs.size):=z7;refine iN z7 ς λg8 z8 s8=>au ⟨_,rfl,?_⟩;have z8:IsZip g8 z TI TO (rawInt g5.objs.size):=z8;have up:∀c o,c≠z->g5.get? c=some o->g8.get? c=some o:=λc o n e=>s8.extBut _ _ n (s7.extBut _ _ n (af _ e));have T8:IsPair g8 g5.objs.size x y:=s8.extBut _ _ (fc zl) (s7.extBut _ _ (fc zl) (av _ rfl));rw[sz] at z8 T8;refine(?_:Q (.ref g5.objs.size) _);rw[sz];obtain⟨v1,v2,v3⟩:=j1;obtain⟨w1,w2,w3⟩:=j2;exact q g8 z8 (up _ _ D.TOz o5) ⟨v1,up _ _ D.i1z v2,v3⟩ ⟨w1,up _ _ D.i2z w2,w3⟩ T8 λc o n1 n2 n3 n4 e=>up c o n1 (s5.extBut _ _ n2 (s4.extBut _ _ n4 (s3.extBut _ _ n2 (s2.extBut _ _ n3 (s1.extBut _ _ n1 e)))))
def Ho {z TI TO i1 i2 t1 t2:aq}{n1 n2:Nat}{xs ys:Array ai}{a b:ai}{Q:Fin->ar->Prop}(free:A.handled=none) (D:ZipApart z TI TO i1 i2 t1 t2) (c1:IsZip s.heap z TI TO .none) (c2:IsPair s.heap TI (.ref i1) (.ref i2)) (c3:IsPair s.heap TO a b) (c4:s.heap.IsTupleIter i1 t1 n1) (c5:s.heap.IsTupleIter i2 t2 n2) (c6:s.heap.IsTuple t1 xs) (c7:s.heap.IsTuple t2 ys) (c8:xs[n1]?=none\/ys[n2]?=none) (q:∀h' x,(∀c o,c≠z->c≠TO->c≠i1->c≠i2->s.heap.get? c=some o->h'.get? c=some o)->(∃o,h'.get? x=some o/\o.cls=.type "StopIteration")->E (.ref x) {s with heap:=h'}):
  wpAny (model prog w) A (Builtin.«zip.__next__» ⟨[.ref z],[]⟩) Q E s:=by
 have Hr:∀{g:Heap} {x:aq} {o:Obj},IsZip g z TI TO .ellipsis->g.get? x=some o->o.cls=.type "StopIteration"->x≠z:=λ{g x o} k1 k2 k3 e=>by rw[e,k1] at k2;cases k2;exact absurd (show Value.type "zip"=Value.type "StopIteration" from k3) δ
 refine(aa (dW c1 rfl (x:=.bool false) rfl ?_):wpAny _ _ (field (.ref z) 2>>=_) _ _ _);refine(aa (dW c1 rfl (x:=.ref TI) rfl ?_):wpAny _ _ (field (.ref z) 3>>=_) _ _ _);refine aa (b7 c2 rfl ?_);refine(aa ?_:wpAny _ _ (Builtin.SmallTypes.ownedTupleIsFree (.ref z)>>=_) _ _ _);unfold Builtin.SmallTypes.ownedTupleIsFree;refine aa (dW c1 rfl (x:=.none) rfl (au ?_));simp only[jg];refine aa (m5 ?_);refine aa (dW c1 rfl (x:=.ref TO) rfl ?_);refine aa (iN c1 ς λg1 k1 s1=>?_);have k1:IsZip g1 z TI TO .ellipsis:=k1;refine aa ?_;simp only[tT,KE,List.zipIdx_cons,List.zipIdx_nil];refine aa (aa (F9 ?_));cases hx:xs[n1]? with
 |none=>show wpAny _ _ (Builtin.SmallTypes.nextOf (.ref i1)>>=_) _ _ _;refine aa (rQ free (fC c4 s1 D.i1z) (iU c6 s1 D.l1z) hx λg2 x s2 ⟨o,o1,o2⟩=>?_);have z2:IsZip g2 z TI TO .ellipsis:=s2 _ _ D.i1z.symm k1;exact iN z2 ς λg3 _ s3=>q g3 x (λc u n1 _ n3 _ e=>s3.extBut _ _ n1 (s2 _ _ n3 (s1.extBut _ _ n1 e))) ⟨o,s3.extBut _ _ (Hr z2 o1 o2) o1,o2⟩
 |some x1=>
  have hy:ys[n2]?=none:=by
   rcases c8 with e|e
   .rw[hx] at e;cases e
   .exact e
  show wpAny _ _ (Builtin.SmallTypes.nextOf (.ref i1)>>=_) _ _ _;refine aa (mh (fC c4 s1 D.i1z) (iU c6 s1 D.l1z) hx λg2 k2 s2=>au ?_);have o2:IsPair g2 TO a b:=s2.extBut _ _ D.TOi1 (s1.extBut _ _ D.TOz c3);refine aa (b7 o2 rfl ?_);refine aa (A8 o2 λg3 o3 s3=>?_);refine aa (dX (au ?_));refine aa (aa (F9 ?_));show wpAny _ _ (Builtin.SmallTypes.nextOf (.ref i2)>>=_) _ _ _;refine aa (rQ free (fC (fC (fC c5 s1 D.i2z) s2 D.i12.symm) s3 D.TOi2.symm) (iU (iU (iU c7 s1 D.l2z) s2 D.l2i1) s3 D.l2TO) hy λg4 x s4 ⟨o,o1,o2'⟩=>?_);have z4:IsZip g4 z TI TO .ellipsis:=s4 _ _ D.i2z.symm (s3.extBut _ _ D.TOz.symm (s2.extBut _ _ D.i1z.symm k1));exact iN z4 ς λg5 _ s5=>q g5 x (λc u n1 n2 n3 n4 e=>s5.extBut _ _ n1 (s4 _ _ n4 (s3.extBut _ _ n2 (s2.extBut _ _ n3 (s1.extBut _ _ n1 e))))) ⟨o,s5.extBut _ _ (Hr z4 o1 o2') o1,o2'⟩
def BK (t1 t2:aq) (xs ys:Array ai):Meets (Builtin.«zip.__new__» ⟨[.type "zip",.ref t1,.ref t2],[]⟩) (λ_ R s=>s.heap.IsTuple t1 xs/\s.heap.IsTuple t2 ys/\∀h1 h2 h3 h4 h5:Heap,h1=s.heap.push {cls:=.type "tuple_iterator",data:=.fields #[.ref t1,.int 0 0]}->h2=h1.push {cls:=.type "tuple_iterator",data:=.fields #[.ref t2,.int 0 0]}->h3=h2.push {cls:=.type "tuple",data:=.seq #[.ref s.heap.objs.size,.ref h1.objs.size]}-> h4=h3.push {cls:=.type "tuple",data:=.seq #[.none,.none]}->h5=h4.push {cls:=.type "zip",data:=.fields #[.none,.bool false,.bool false,.ref h2.objs.size,.ref h3.objs.size]}->R (.ok (.ret (.ref h4.objs.size))) {s with heap:=h5}):=
 .of_wp λprog w A R s h=>by
  obtain⟨hp,g,d,tk,os⟩:=s;obtain⟨p1,p2,h⟩:=h;have EM:=sub_zip;have q1:Heap.IsTuple (Shared.heap ⟨hp,g,d,tk,os⟩) t1 xs:=p1;have q2:Heap.IsTuple (Shared.heap ⟨hp.push {cls:=.type "tuple_iterator",data:=.fields #[.ref t1,.int 0 0]},g,d,tk,os⟩) t2 ys:=Heap.IsTuple.push p2 _
  wp_walk using gG q1,gG q2
  exact⟨_,rfl,h _ _ _ _ _ rfl rfl rfl rfl rfl⟩
def EO (p1:s.heap.IsTuple t1 xs) (p2:s.heap.IsTuple t2 ys) (q:∀h',IsZip h' (s.heap.objs.size+4) (s.heap.objs.size+2) (s.heap.objs.size+3) .none->IsPair h' (s.heap.objs.size+2) (.ref s.heap.objs.size) (.ref (s.heap.objs.size+1))->IsPair h' (s.heap.objs.size+3) .none .none-> h'.IsTupleIter s.heap.objs.size t1 0->h'.IsTupleIter (s.heap.objs.size+1) t2 0->(∀c o,s.heap.get? c=some o->h'.get? c=some o)->Q (.ref (s.heap.objs.size+4)) {s with heap:=h'}):
  wpAny (model prog w) A (call (.type "zip") [.ref t1,.ref t2]) Q E s:=by
 refine callType_new F.called_zip δ (F.typeCall_zip_2 _ _) (F.newCall_zip_2 _ _) (λobj=>F.args_object_init_3 obj _ _) F.entry_zip_new (BK t1 t2 xs ys) ⟨p1,p2,λh1 h2 h3 h4 h5 e1 e2 e3 e4 e5=>?_⟩;have m1:h1.objs.size=s.heap.objs.size+1:=by rw[e1];exact bP ..
 have m2:h2.objs.size=s.heap.objs.size+2:=by rw[e2,bP,m1]
 have m3:h3.objs.size=s.heap.objs.size+3:=by rw[e3,bP,m2]
 have m4:h4.objs.size=s.heap.objs.size+4:=by rw[e4,bP,m3]
 have u5:∀c o,h4.get? c=some o->h5.get? c=some o:=λc o e=>by rw[e5];exact af _ e
 have u4:∀c o,h3.get? c=some o->h4.get? c=some o:=λc o e=>by rw[e4];exact af _ e
 have u3:∀c o,h2.get? c=some o->h3.get? c=some o:=λc o e=>by rw[e3];exact af _ e
 have u2:∀c o,h1.get? c=some o->h2.get? c=some o:=λc o e=>by rw[e2];exact af _ e
 have u1:∀c o,s.heap.get? c=some o->h1.get? c=some o:=λc o e=>by rw[e1];exact af _ e
 have f5:IsZip h5 (s.heap.objs.size+4) (s.heap.objs.size+2) (s.heap.objs.size+3) .none:=by rw[<-m4,<-m3,<-m2,e5];exact av _ rfl
 have f4:IsPair h4 (s.heap.objs.size+3) .none .none:=by rw[<-m3,e4];exact av _ rfl
 have f3:IsPair h3 (s.heap.objs.size+2) (.ref s.heap.objs.size) (.ref (s.heap.objs.size+1)):=by rw[<-m2,<-m1,e3];exact av _ rfl
 have f2:h2.IsTupleIter (s.heap.objs.size+1) t2 0:=⟨_,by rw[<-m1,e2];exact av _ rfl,rfl,rfl⟩;have f1:h1.IsTupleIter s.heap.objs.size t1 0:=⟨_,by rw[e1];exact av _ rfl,rfl,rfl⟩;rw[m4];obtain⟨v1,v2,v3⟩:=f1;obtain⟨w1,w2,w3⟩:=f2;exact⟨⟨_,f5,rfl⟩,q h5 f5 (u5 _ _ (u4 _ _ f3)) (u5 _ _ f4) ⟨v1,u5 _ _ (u4 _ _ (u3 _ _ (u2 _ _ v2))),v3⟩ ⟨w1,u5 _ _ (u4 _ _ (u3 _ _ w2)),w3⟩ λc o e=>u5 _ _ (u4 _ _ (u3 _ _ (u2 _ _ (u1 _ _ e))))⟩
def Itz (K:Φ) (a b:aq):It:=⟨λi H=>∃xs ys x y,iY K H a xs/\iY K H b ys/\xs[i]?=some x/\ys[i]?=some y,λi H v H'=>∃T x y,H T=none/\v=.ref T/\H'=upd H T (.tup [x,y])/\(∀xs,iY K H a xs->xs[i]?=some x)/\∀ys,iY K H b ys->ys[i]?=some y,λi H=>∃xs ys,iY K H a xs/\iY K H b ys/\(xs.length<=i\/ys.length<=i)⟩
def VY (z TI TO i1 i2 a b:aq) (i:Nat) (h:Heap):Prop:=IsZip h z TI TO .none/\IsPair h TI (.ref i1) (.ref i2)/\(∃x y,IsPair h TO x y)/\h.IsTupleIter i1 a i/\h.IsTupleIter i2 b i
def ER {P:aQ}{w:bg}{K:Φ}{elts:List Expr}{kk:Nat}{tp:Pos}(z TI TO i1 i2 a b:aq) (D:ZipApart z TI TO i1 i2 a b):Turn P w K (.Tuple elts kk tp) (Itz K a b) [z,TI,TO,i1,i2] z (VY z TI TO i1 i2 a b) where
 mem:=ς
 obj:=λi h st c hc=>by
  obtain⟨z1,z2,⟨x,y,z3⟩,⟨o,o1,o2,o3⟩,⟨u,u1,u2,u3⟩⟩:=st;simp only[aU,bF,eE] at hc;rcases hc with rfl|rfl|rfl|rfl|rfl
  .exact⟨_,z1,λv e=>by cases(show Data.fields _=Data.cell v from e)⟩
  .exact⟨_,z2,λv e=>by cases(show Data.seq _ _=Data.cell v from e)⟩
  .exact⟨_,z3,λv e=>by cases(show Data.seq _ _=Data.cell v from e)⟩
  .exact⟨o,o1,λv e=>by rw[o3] at e;cases e⟩
  .exact⟨u,u1,λv e=>by rw[u3] at e;cases e⟩
 keep:=λi h h' st kp=>by obtain⟨z1,z2,⟨x,y,z3⟩,⟨o,o1,o2⟩,⟨u,u1,u2⟩⟩:=st;exact⟨kp z ς _ z1,kp TI ς _ z2,⟨x,y,kp TO ς _ z3⟩,⟨o,kp i1 ς o o1,o2⟩,⟨u,kp i2 ς u u1,u2⟩⟩
 item:=by
  intro X hP hw hK hc i ac s U H E I hf st hg;subst hP hw hK;obtain⟨xs,ys,x,y,UB,UC,hx,hy⟩:=hg;obtain⟨BL,ZN,p1,_⟩:=I.tuple UB;obtain⟨jV,ZO,p2,_⟩:=I.tuple UC;obtain⟨u1,hu1,ru1⟩:=ZN.get hx;obtain⟨u2,hu2,ru2⟩:=ZO.get hy;obtain⟨z1,z2,⟨oa,ob,z3⟩,j1,j2⟩:=st;have VZ:s.TypeIs (.ref z) "zip":=⟨_,z1,rfl⟩;have lt:∀c∈[z,TI,TO,i1,i2],c<s.heap.objs.size:=λc hc=>by
   obtain⟨_,w1,_⟩:=id j1;obtain⟨_,w2,_⟩:=id j2;simp only[aU,bF,eE] at hc;rcases hc with rfl|rfl|rfl|rfl|rfl
   .exact aG z1
   .exact aG z2
   .exact aG z3
   .exact aG w1
   .exact aG w2
  unfold pyNext;refine aa (wpAny_attempt (fU (name:=Str.ofString "__next__") VZ yU (hX yU VZ F.entry_zip_next (EN D z1 z2 z3 j1 j2 (show s.heap.IsTuple a BL.toArray from p1) (show s.heap.IsTuple b jV.toArray from p2) (x:=u1) (y:=u2) (by simpa using hu1) (by simpa using hu2) λh' a1 a2 a3 a4 a5 a7=>au ?_) (F.args_zip_next_1 _))));refine⟨_,rfl,wpAny_letOwnedTupleGo_zip a1 λh2 b1 Lp=>?_⟩;have nT:s.heap.objs.size≠z:=fc (lt z ς);have Kg:∀c o,c≠z->h'.get? c=some o->h2.get? c=some o:=λc o n e=>(Lp.2 c n).trans e;obtain⟨f1,f2,f3⟩:=I.out (h':=h2) (t':=s.toks) (xs:=[x,y]) (us:=[u1,u2]) hf lt (.cons ru1 (.cons ru2 .nil)) (Bh) (λc o hc q=>Kg c o (λe=>hc (by simp[e])) (a7 c o (λe=>hc (by simp[e])) (λe=>hc (by simp[e])) (λe=>hc (by simp[e])) (λe=>hc (by simp[e])) q)) (Kg _ _ nT a5);obtain⟨v1,v2,v3⟩:=a3;obtain⟨w1,w2,w3⟩:=a4;exact⟨.ref s.heap.objs.size,_,f2,rfl,⟨_,x,y,f1,rfl,rfl,λzs hzs=>by rw[I.nZ hzs UB];exact hx,λzs hzs=>by rw[I.nZ hzs UC];exact hy⟩,⟨b1,Kg _ _ D.TIz (a7 _ _ D.TIz D.TITO D.TIi1 D.TIi2 z2),⟨_,_,Kg _ _ D.TOz a2⟩,⟨v1,Kg _ _ D.i1z v2,v3⟩,⟨w1,Kg _ _ D.i2z w2,w3⟩⟩,f3⟩
 done:=by
  intro X hP hw hK hc i ac s U H E I hf st hg;subst hP hw hK;obtain⟨xs,ys,UB,UC,hxy⟩:=hg;obtain⟨BL,ZN,p1,_⟩:=I.tuple UB;obtain⟨jV,ZO,p2,_⟩:=I.tuple UC;obtain⟨z1,z2,⟨oa,ob,z3⟩,j1,j2⟩:=st;have VZ:s.TypeIs (.ref z) "zip":=⟨_,z1,rfl⟩;have l1:=ZN.length;have l2:=ZO.length;have ends:BL.toArray[i]?=none\/jV.toArray[i]?=none:=by
   rcases hxy with e|e
   .left;simp;omega
   .right;simp;omega
  unfold pyNext;refine aa (wpAny_attempt (fU (name:=Str.ofString "__next__") VZ yU (hX yU VZ F.entry_zip_next (Ho (I.ok.hd hc) D z1 z2 z3 j1 j2 (show s.heap.IsTuple a BL.toArray from p1) (show s.heap.IsTuple b jV.toArray from p2) ends λh' x kp ⟨o,o1,o2⟩=>?_) (F.args_zip_next_1 _))));refine aa (wpAny_isInstance (T:="StopIteration") (b:=true) ⟨o,o1,o2⟩ isSubtype_stop (au ⟨rfl,?_⟩));exact I.ue (t':=s.toks) hf λc o hc q=>kp c o (λe=>hc (by simp[e])) (λe=>hc (by simp[e])) (λe=>hc (by simp[e])) (λe=>hc (by simp[e])) q
 self:=λ_ _ _ _ _ st q=>wpAny_pyIter_zip st.1 q
def ES:bootBuiltins "zip"=some (.type "zip"):=η
def zF {J:It}{n:Nat}{u v:Nat->V}{g:TG}{tc:TT}{te:TE}{kr:St}{H1:Hp}{Q:VK}{D:aq}(Iv:Nat->Aac->St->Hp->Prop) (hD:H1 D=none) (hn:n<=1000) (h0:Iv 0 [] kr (upd H1 D (.lst []))) (hj:∀i ys U H,i<=n->H D=some (.lst ys)->Iv i ys U H->(i=n->J.stop i H)/\(i<n->J.go i H/\∀x H',J.vR i H x H'->∃T,H T=none/\x=.ref T/\H'=upd H T (.tup [u i,v i]))) (hs:∀i ys U H T,i<n->H D=some (.lst ys)->Iv i ys U H->H T=none->g (.ref T) U (upd H T (.tup [u i,v i])) λcz H3=>tc cz H3 λb H4=>
   if b=true then te cz H4 λy H5=>H5 D=some (.lst ys)/\Iv (i+1) (ys++ [y]) cz (upd H5 D (.lst (ys++ [y]))) else H4 D=some (.lst ys)/\Iv (i+1) ys cz H4)
  (hd:∀ys U H,H D=some (.lst ys)->Iv n ys U H->Q (.ref D) H):tj J g tc te kr H1 Q D:=by
 refine⟨λi m U H=>m=n-i/\i<=n/\∃ys,H D=some (.lst ys)/\ys.length<=i/\Iv i ys U H,⟨n,rfl,bH _,[],ba,ao _,h0⟩,?_⟩;rintro i m U H ⟨rfl,hi,ys,hy,hl,iv⟩;obtain⟨j1,j2⟩:=hj i ys U H hi hy iv;rcases Vc i n with lt|ge
 .obtain⟨go,yl⟩:=j2 lt;refine .inr ⟨go,λcz H4=>H4 D=some (.lst ys)/\Iv (i+1) ys cz H4,λy cz H5=>H5 D=some (.lst ys)/\Iv (i+1) (ys++ [y]) cz (upd H5 D (.lst (ys++ [y]))),λcz H4 q=>?_,λy cz H5 q=>?_,λx H2 q=>?_⟩
  .exact⟨n-(i+1),ω,rfl,lt,ys,q.1,ω,q.2⟩
  .exact⟨ys,n-(i+1),q.1,lD ω,ω,rfl,lt,ys++ [y],ba,by rw[aA,aE];omega,q.2⟩
  .obtain⟨T,f1,rfl,rfl⟩:=yl x H2 q;exact hs i ys U H T lt hy iv f1
 .have e:i=n:=ω;subst e;exact .inl ⟨j1 rfl,hd ys U H hy iv⟩
section
variable {tg:Expr}
def Ht (hc:X.calm=true):dR X (.builtin "any") (λxs H Q=>∃(p:aq) (bs:List Bool),xs=[.ref p]/\gj X.K H p (bs.map V.bl)/\Q (.bl (bs.any id)) H):=by
 intro ac s U H xs us Q I r h;obtain⟨p,bs,rfl,hq,q⟩:=h;obtain⟨u,rfl,rx⟩:=mB r;cases(show u=Value.ref p from rx);obtain⟨bV,rv,pl,hz⟩:=I.list hq;have ie:p<s.heap.objs.size:=by obtain⟨o,e,_⟩:=pl.isList;exact aG e
 refine call_any_walk (dQ pl.isList ?_);refine⟨s.heap.objs.size,_,_,bV.toArray.size,_,_,λi=>bs.getD i false,rfl,jG (prog:=X.prog) (w:=X.w) (A:=X.A.in1) (I.ok.hd hc) s.heap.objs.size p (aW ie) bV.toArray,⟨⟨_,av _ rfl,rfl,rfl⟩,pl.isList.at λo e=>af _ e⟩,?_,λh' tk hk=>?_⟩
 .intro i v s' Q' E' hP hQ;have mG:bV[i]?=some v:=by simpa using hP
  have hl:=rv.length;rw[ah] at hl;have hi:i<bV.length:=(aF.mp mG).1;obtain⟨u,hu,ru⟩:=rv.get (i:=i) (x:=V.bl (bs.getD i false)) (by rw[aR,ag ω];simp[List.getD,ag (show i<bs.length by omega)]);rw[mG] at hu;cases hu;cases(show v=Value.bool _ from ru);exact bB hQ
 .refine⟨.bl _,H,I.kept λb o e=>hk b o (by simpa using aW (aG e)) (af _ e),rfl,?_⟩;have hl:=rv.length;rw[ah] at hl;have e:(List.range bV.toArray.size).any (λi=>bs.getD i false)=bs.any id:=by
   rw[aC,<-hl];have:(List.range bs.length).map (λi=>bs.getD i false)=bs:=by
    apply Es
    .simp
    .intro i h1 h2;simp[List.getD,ag h2]
   conv=>rhs;rw[<-this]
   rw[A9];rfl
  rw[e];exact q
end
def ET {J:It}{n:Nat}{u v:Nat->V}{g:TG}{te:TE}{kr:St}{H1:Hp}{Q:VK}{D:aq}(Iv:Nat->Aac->St->Hp->Prop) (hD:H1 D=none) (hn:n<=1000) (h0:Iv 0 [] kr (upd H1 D (.lst []))) (hj:∀i ys U H,i<=n->H D=some (.lst ys)->Iv i ys U H->(i=n->J.stop i H)/\(i<n->J.go i H/\∀x H',J.vR i H x H'->∃T,H T=none/\x=.ref T/\H'=upd H T (.tup [u i,v i]))) (hs:∀i ys U H T,i<n->H D=some (.lst ys)->Iv i ys U H->H T=none->g (.ref T) U (upd H T (.tup [u i,v i])) λcz H3=>te cz H3 λy H5=>H5 D=some (.lst ys)/\Iv (i+1) (ys++ [y]) cz (upd H5 D (.lst (ys++ [y])))) (hd:∀ys U H,H D=some (.lst ys)->Iv n ys U H->Q (.ref D) H):tj J g lF te kr H1 Q D:=zF Iv hD hn h0 hj (λi ys U H T h1 h2 h3 h4=>hs i ys U H T h1 h2 h3 h4) hd
def iy:∀{ss:Aab}{us:Aad},cx (ss.map V.str) us->StrsAre us ss
 | [],_,r=>by cases r;exact .nil
 |x::ss,_,r=>by
  cases r with
  |cons r1 r2=>obtain⟨t,rfl⟩:=r1;exact .cons x t (iy r2)
def wO:∀{us:Aad}{ss:Aab},StrsAre us ss->cx (ss.map V.str) us
 |_,_,.nil=>.nil
 |_,_,.cons x t h=>.cons ⟨t,rfl⟩ (wO h)
def xZ:dR X (.builtin "sorted") (λxs H Q=>∃(p:aq) (ss:Aab),xs=[.ref p]/\gj X.K H p (ss.map V.str)/\ss.length<64/\∀(l:aq) (UD:Aab),H l=none->UD.Perm ss->sortedS UD=true->Q (.ref l) (upd H l (.lst (UD.map V.str)))):=by
 intro ac s U H xs us Q I r h;obtain⟨p,ss,rfl,hq,QX,q⟩:=h;obtain⟨u,rfl,rx⟩:=mB r;cases(show u=Value.ref p from rx);obtain⟨bV,rv,pl,hz⟩:=I.list hq;have hl:=rv.length;rw[ah] at hl;refine sorted_strs pl.isList (iy rv) ω λout UD a1 a2 a3=>?_;obtain⟨e,he⟩:=sortedAll_at s.heap bV out;have fresh:H (s.heap.objs.size+1)=none:=I.dh.fresh (dg _);have QG:=a2.length_eq;refine⟨.ref (s.heap.objs.size+1),upd H (s.heap.objs.size+1) (.lst (UD.map V.str)),I.laid (t':=s.toks) (λb o eb=>sortedAll_old eb) (dg _) ⟨?_,out.toList,e,wO a1,?_⟩,rfl,q _ UD fresh a2 a3⟩
 .rw[ah];exact d7 (lD ω)
 .rw[he]
def qH {t sl:aq}{items:Array ai}{vl vu:ai}{lo hi:Option Int}{Q:Aaf}(ht:IsTup s.heap t items) (hs:s.heap.IsSliceOf sl vl vu .none) (pl:IsPart vl lo) (pu:IsPart vu hi) (hw:gF items.size 0 lo=0/\gF items.size items.size hi=items.size) (h:Q (.ref t) s):wpAny (model prog w) A (getItem (.ref t) (.ref sl)) Q E s:=by
 obtain⟨os,QA,K8,VG⟩:=id hs;have hTs:s.TypeIs (.ref sl) "slice":=⟨os,QA,K8⟩;unfold getItem;try with_reducible refine cf ?_
 first|refine aa (au ?_)|skip
 refine aa (wpAny_sequenceKey ht.typeIs δ ?_);refine aa (fU (name:=Str.ofString "__getitem__") ht.typeIs eh (hX eh ht.typeIs entry_tuple_getitem ?_ (args_tuple_getitem _ _)));show wpAny _ _ (Builtin.Tuple.tupleItemsOf (.ref t)>>=_) _ _ s;refine aa (tupleItemsOf_ ht ?_);refine aa (Kz hTs ?_);rw[aJ δ];refine aa (lC hs pl pu ?_);show wpAny _ _ (if(((gF items.size 0 lo:Nat):Int)==0&&(1:Int)==1&&(gF items.size items.size hi-gF items.size 0 lo)==items.size)=true then _ else _) _ _ s;rw[hw.1,hw.2,aJ ς];unfold Builtin.Tuple.tupleIsExact;refine aa (aa (Kz ht.typeIs (au ?_)));rw[aJ δ];refine aa (m5 ?_);exact au ⟨_,rfl,au h⟩
def aaG (K:Φ):V->Option Int->Option Int->Hp->VK->Prop:=λx lo hi H Q=>∃a xs,x=.ref a/\iY K H a xs/\ ((gF xs.length 0 lo=0/\gF xs.length xs.length hi=xs.length)->Q (.ref a) H)/\(¬(gF xs.length 0 lo=0/\gF xs.length xs.length hi=xs.length)->∀p,H p=none->Q (.ref p) (upd H p (.tup (gO xs lo hi))))
def Lq:Uy X (aaG X.K):=by
 intro ac s U H x v vl vu lo hi sl Q I rx hs pl pu h;obtain⟨a,xs,e,hx,q1,q2⟩:=h;by_cases hw:gF xs.length 0 lo=0/\gF xs.length xs.length hi=xs.length
 .subst e;cases rx;obtain⟨bV,r,ht,hz⟩:=I.tuple hx;have hlen:bV.toArray.size=xs.length:=by rw[aC];exact r.length.symm
  refine⟨"tuple",_,eh.lookup,ht.typeIs,?_⟩;exact qH ht hs pl pu (by rw[hlen];exact hw) ⟨.ref a,H,I,rfl,q1 hw⟩
 .exact G_ ac s U H x v vl vu lo hi sl Q I rx hs pl pu ⟨a,xs,e,hx,hw,q2 hw⟩
def filterMap_some {α β:Type}{f:α->Option β}{g:α->β}:∀{l:List α},(∀a∈l,f a=some (g a))->l.filterMap f=l.map g
 | [],_=>rfl
 |a::l,h=>by rw[mT,h a bT,bG,filterMap_some λb hb=>h b (bJ _ hb)]
def cx.zG:∀{xs:Aac}{us:Aad},cx xs us->cx xs.reverse us.reverse
 |_,_,.nil=>.nil
 |_,_,.cons r rs=>by rw[kC,kC];exact(cx.zG rs).append (.cons r .nil)
def Hu {t:aq}{vs:Aad}{Q:Aad->ar->Prop}(wL:s.heap.IsTuple t vs.toArray) (q:Q vs {s with heap:=(s.heap.push (seqObj "list" #[] 0)).update s.heap.objs.size (Obj.mapSeq (· ++vs.toArray))}) (fit:vs.length<=sizeLine):
  wpAny (model prog w) A (collect (.ref t)) Q E s:=by
 obtain⟨o,o1,o2,n,o3⟩:=id wL;unfold collect;refine aa (wpAny_runValue (cV entry_proto_collect' ?_));show wpAny _ _ (do again (.builtin "list.__iadd__" ⟨[<-newList [],.ref t],[]⟩)) _ _ s;refine aa (wpAny_newList (au ⟨Code.quiet_builtin _ η,cV entry_list_iadd' ?_⟩));show wpAny _ _ (Builtin.List.listExtendWith (.ref s.heap.objs.size) (.ref t) (.ref s.heap.objs.size)) _ _ {s with heap:=s.heap.push (seqObj "list" #[] 0)};unfold Builtin.List.listExtendWith;have u1:(s.heap.push (seqObj "list" #[] 0)).get? t=some o:=af _ o1;refine aa (Kz (T:="tuple") ⟨o,u1,o2⟩ ?_);rw[aJ ς];refine aa (listItems_at u1 o3 ?_);refine aa (listItems_at (xs:=#[]) (n:=0) (av _ rfl) rfl ?_);rw[aI ς];refine aa (Vd (xs:=#[]) (n:=0) (av _ rfl) rfl (au ?_) (bH _) (by show(#[]++vs.toArray).size<=sizeLine+1;simp only[Array.size_append,aC,Gu];omega));refine(?_:wpAny (model prog w) A (load s.heap.objs.size>>=_) Q E {s with heap:=(s.heap.push (seqObj "list" #[] 0)).update s.heap.objs.size (Obj.mapSeq (· ++vs.toArray))});refine aa (wpAny_load (get?_update_seq (av _ rfl) _) ?_);refine(?_:wpAny _ _ (pure ((#[]:Array ai)++vs.toArray).toList) Q E _);rw[show((#[]:Array ai)++vs.toArray).toList=vs by simp];exact au q
section
variable {κ:Type}[DecidableEq κ]
def gP (kvs:List (κ×V)) (k:κ):Option V:=(kvs.find? λkv=>decide (kv.1=k)).map (·.2)
def putK (kvs:List (κ×V)) (k:κ) (v:V):List (κ×V):=if(kvs.any λkv=>decide (kv.1=k))=true then kvs.map (λkv=>if kv.1=k then(kv.1,v) else kv) else kvs++ [(k,v)]
def gg {p:κ×V}{r:List (κ×V)}{k:κ}(e:p.1=k):gP (p::r) k=some p.2:=by simp[gP,gD,e]
def gh {p:κ×V}{r:List (κ×V)}{k:κ}(e:¬p.1=k):gP (p::r) k=gP r k:=by simp[gP,gD,e]
def kg (k:κ):∀kvs:List (κ×V),(kvs.any λkv=>decide (kv.1=k))=(gP kvs k).isSome
 | []=>rfl
 |p::r=>by
  rw[iu];by_cases e:p.1=k
  .simp only[gg e,aZ e,Bool.true_or,Option.isSome_some]
  .rw[gh e,bw e,Bool.false_or];exact kg k r
def zH (k j:κ) (y:V):∀kvs:List (κ×V),gP (kvs.map λkv=>if kv.1=k then(kv.1,y) else kv) j=(gP kvs j).map λx=>if j=k then y else x
 | []=>rfl
 |p::r=>by
  have ih:=zH k j y r;rw[bG];by_cases h:p.1=k
  .rw[aJ h];by_cases e:p.1=j
   .rw[gg (p:=(p.1,y)) e,gg e,mL,aJ (e.symm.trans h)]
   .rw[gh (p:=(p.1,y)) e,gh e,ih]
  .rw[aI h];by_cases e:p.1=j
   .rw[gg (p:=p) e,gg e,mL,aI (λz=>h (e.trans z))]
   .rw[gh (p:=p) e,gh e,ih]
def wQ (k j:κ) (y:V):∀kvs:List (κ×V),gP kvs k=none->gP (kvs++ [(k,y)]) j=if j=k then some y else gP kvs j
 | [],_=>by
  by_cases e:k=j
  .rw[aJ e.symm];exact gg (p:=(k,y)) e
  .rw[aI (λz=>e z.symm)];exact gh (p:=(k,y)) e
 |p::r,hn=>by
  rw[List.cons_append];have hk:¬p.1=k:=λz=>by rw[gg z] at hn;cases hn
  rw[gh hk] at hn;have ih:=wQ k j y r hn;by_cases e:p.1=j
  .rw[gg e,gg e,aI (λz=>hk (e.trans z))]
  .rw[gh e,gh e,ih]
def uI (kvs:List (κ×V)) (k j:κ) (y:V):gP (putK kvs k y) j=if j=k then some y else gP kvs j:=by
 unfold putK;by_cases a:(kvs.any λkv=>decide (kv.1=k))=true
 .rw[aJ a,zH];rw[kg] at a;by_cases e:j=k
  .obtain⟨x,hx⟩:=PJ.mp a;rw[aJ e,e,hx,mL,aJ rfl]
  .rw[aI e];cases gP kvs j with
   |none=>rfl
   |some x=>rw[mL,aI e]
 .rw[aI a];refine wQ k j y kvs ?_;rw[kg] at a;cases q:gP kvs k with
  |none=>rfl
  |some x=>rw[q] at a;exact(a rfl).elim
def gQ (kvs:List (κ×V)) (k:κ) (v:V):(putK kvs k v).length<=kvs.length+1:=by
 unfold putK;split
 .rw[ah];omega
 .rw[aA,bE,Gu];omega
def mO.lI (r:mO o u):o.isSome=u.isSome:=by
 cases o with
 |none=>cases u with
  |none=>rfl
  |some _=>exact(show False from r).elim
 |some _=>cases u with
  |none=>exact(show False from r).elim
  |some _=>rfl
def mO.getD (r:mO o u) (rd:RelV d d'):RelV (o.getD d) (u.getD d'):=by
 cases o with
 |none=>cases u with
  |none=>exact rd
  |some _=>exact(show False from r).elim
 |some _=>cases u with
  |none=>exact(show False from r).elim
  |some _=>exact r
def KV.val {kvs:List (κ×V)}{vs:List (κ×ai)}(r:KV kvs vs) (k:κ):mO (gP kvs k) (valueAt vs k):=by
 unfold KV at r;induction r with
 |nil=>exact True.intro
 | @cons p q ps qs h t ih=>
  obtain⟨h1,h2⟩:=h;by_cases e:p.1=k
  .have e':q.1=k:=h1.symm.trans e;have b:valueAt (q::qs) k=some q.2:=by simp[valueAt,gD,e']
   rw[gg e,b];exact h2
  .have e':¬q.1=k:=λz=>e (h1.trans z);have b:valueAt (q::qs) k=valueAt qs k:=by simp[valueAt,gD,e']
   rw[gh e,b];exact ih
def KV.any {kvs:List (κ×V)}{vs:List (κ×ai)}(r:KV kvs vs) (k:κ):(kvs.any λkv=>decide (kv.1=k))=vs.any λkv=>decide (kv.1=k):=by
 unfold KV at r;induction r with
 |nil=>rfl
 |cons h t ih=>rw[iu,iu,ih,h.1]
def KV.QY {kvs:List (κ×V)}{vs:List (κ×ai)}(r:KV kvs vs) (k:κ) {y:V}{u:ai}(ry:RelV y u):
  KV (kvs.map λkv=>if kv.1=k then(kv.1,y) else kv) (vs.map λkv=>if kv.1=k then(kv.1,u) else kv):=by
 unfold KV at r⊢;induction r with
 |nil=>exact .nil
 | @cons p q ps qs h t ih=>
  rw[bG,bG];refine .cons ?_ ih;obtain⟨h1,h2⟩:=h;by_cases e:p.1=k
  .rw[aJ e,aJ (h1.symm.trans e)];exact⟨h1,ry⟩
  .rw[aI e,aI (λz=>e (h1.trans z))];exact⟨h1,h2⟩
def KV.put {kvs:List (κ×V)}{vs:List (κ×ai)}(r:KV kvs vs) (k:κ) {y:V}{u:ai}(ry:RelV y u):KV (putK kvs k y) (stored vs k u):=by
 unfold putK stored;rw[r.any k];by_cases e:(vs.any λkv=>decide (kv.1=k))=true
 .rw[aJ e,aJ e];exact r.QY k ry
 .rw[aI e,aI e];exact iI r ⟨rfl,ry⟩
def KV.length {kvs:List (κ×V)}{vs:List (κ×ai)}(r:KV kvs vs):kvs.length=vs.length:=d9 r
end
def sF {P}(r:RelV (kV k) u):(fi P w).is k u=true:=by
 cases k with
 |inl i=>obtain rfl:=(show u=Value.bool i from r);exact xD P w i
 |inr x=>obtain⟨t,e⟩:=(show∃t,u=Value.str x t from r);subst e;exact y8 P w x t
def wR {P}:∀{ks:List Key}{us:Aad},cx (ks.map kV) us->ItemsAre (fi P w) ks us
 | [],_,r=>by rw[sY] at r;cases r;exact .nil
 |k::ks,_,r=>by
  rw[bG] at r;cases r with
  |cons h t=>exact .cons (sF h) (wR t)
abbrev KT (H:Hp):List (List Key×V)->List (List Key×aq×ai)->Prop:=Paired λp q=>p.1=q.1/\H q.2.1=some (.tup (p.1.map kV))/\RelV p.2 q.2.2
def KT.val {H}(r:KT H kvs xs) (k:List Key):mO (gP kvs k) ((atKey xs k).map (·.2)):=by
 induction r with
 |nil=>exact True.intro
 | @cons p q ps qs h t ih=>
  obtain⟨h1,_,h2⟩:=h;by_cases e:p.1=k
  .have e':q.1=k:=h1.symm.trans e;have b:atKey (q::qs) k=some q.2:=by simp[atKey,gD,e']
   rw[gg e,b];exact h2
  .have e':¬q.1=k:=λz=>e (h1.trans z);have b:atKey (q::qs) k=atKey qs k:=by simp[atKey,gD,e']
   rw[gh e,b];exact ih
def KT.QY {H}(r:KT H kvs xs) (k:List Key) (ry:RelV y u):
  KT H (kvs.map λkv=>if kv.1=k then(kv.1,y) else kv) (xs.map (putAt k u)):=by
 induction r with
 |nil=>exact .nil
 | @cons p q ps qs h t ih=>
  rw[bG,bG];refine .cons ?_ ih;obtain⟨h1,h2,h3⟩:=h;unfold putAt;by_cases e:p.1=k
  .rw[aJ e,aJ (h1.symm.trans e)];exact⟨h1,h2,ry⟩
  .rw[aI e,aI (λz=>e (h1.trans z))];exact⟨h1,h2,h3⟩
def KT.put {H}(r:KT H kvs xs) (k:List Key) (hb:H b=some (.tup (k.map kV))) (ry:RelV y u):
  KT H (putK kvs k y) (storedH xs k b u):=by
 have e:(kvs.any λkv=>decide (kv.1=k))=(atKey xs k).isSome:=by rw[kg,(r.val k).lI,A_]
 unfold putK storedH;rw[e];by_cases q:(atKey xs k).isSome=true
 .rw[aJ q,aJ q];exact r.QY k ry
 .rw[aI q,aI q];exact iI r ⟨rfl,hb,ry⟩
def KT.keeps {H}(r:KT H kvs xs) (ht:∀b ys,H b=some (.tup ys)->H' b=some (.tup ys)):KT H' kvs xs:=Paired.y9 r λ_ _ z=>⟨z.1,ht _ _ z.2.1,z.2.2⟩
section
variable {h:Heap}{a:aq}
def OE (ok:nU P w H h) (e:Rd H a u):fD P w H h a u:=e.ok ok
def sH (ok:nU P w H h) (e:Rd H a (.dK kvs)):kvs.length<=sizeLine/\(a==sysModules)=false/\∃vs,KV kvs vs/\h.DictOf (fi P w) a vs:=
 show fD P w H h a (.dK kvs) from OE ok e
def wU (ok:nU P w H h) (e:H a=some (.dK kvs)):kvs.length<=sizeLine/\(a==sysModules)=false/\∃vs,KV kvs vs/\h.DictOf (fi P w) a vs:=sH ok (.inl e)
def pQ {ks:List Key}(ok:nU P w H h) (e:H a=some (.tup (ks.map kV))):(tupleKind (fi P w)).is h ks a:=by obtain⟨_,bV,r,o,h1,h2,_,n,h3⟩:=(show fD P w H h a (.tup (ks.map kV)) from ok a _ e);exact⟨o,bV.toArray,n,h1,h2,h3,by simpa using wR r⟩
def uJ (ok:nU P w H h) (e:Rd H a (.dT kvs)):kvs.length<=sizeLine/\(a==sysModules)=false/\ ∃xs,KT H kvs xs/\h.DictOfH (tupleKind (fi P w)) a xs:=by
 obtain⟨z,y,xs,r,o,es,ep,h1,h2,h3,h4,h5⟩:=(show fD P w H h a (.dT kvs) from OE ok e);refine⟨z,y,xs,r,o,es,ep,h1,h2,h3,h4,λx hx=>?_,h5⟩;have all:∀{l:List (List Key×V)} {m:List (List Key×aq×ai)},KT H l m->∀x∈m,(tupleKind (fi P w)).is h x.1 x.2.1:=by
  intro l m q;induction q with
  |nil=>intro x hx;exact nomatch hx
  | @cons p q ps qs hq t ih=>
   intro x hx;rcases aU.mp hx with e|hx
   .subst e;exact pQ ok (by rw[<-hq.1];exact hq.2.1)
   .exact ih x hx
 exact all r x hx
def OF (ok:nU P w H h) (e:H a=some (.dT kvs)):kvs.length<=sizeLine/\(a==sysModules)=false/\ ∃xs,KT H kvs xs/\h.DictOfH (tupleKind (fi P w)) a xs:=uJ ok (.inl e)
end
def jc (H:Hp) (a:aq) (y:V) (r:Option V):Prop:=(∃kvs k,Rd H a (.dK kvs)/\y=kV k/\r=gP kvs k)\/∃kvs k b,Rd H a (.dT kvs)/\y=.ref b/\H b=some (.tup (k.map kV))/\r=gP kvs k
def zI (H:Hp) (a:aq) (y v:V) (H':Hp):Prop:=(∃kvs k,H a=some (.dK kvs)/\y=kV k/\kvs.length<sizeLine/\H'=upd H a (.dK (putK kvs k v)))\/
 ∃kvs k b,H a=some (.dT kvs)/\y=.ref b/\H b=some (.tup (k.map kV))/\kvs.length<sizeLine/\H'=upd H a (.dT (putK kvs k v))
def jc.k {H}{k:Key}(e:H a=some (.dK kvs)):jc H a (kV k) (gP kvs k):=.inl ⟨kvs,k,.inl e,rfl,rfl⟩
def jc.t {H}{k:List Key}(e:H a=some (.dT kvs)) (eb:H b=some (.tup (k.map kV))):jc H a (.ref b) (gP kvs k):=.inr ⟨kvs,k,b,.inl e,rfl,eb,rfl⟩
def zI.k {H}{k:Key}(e:H a=some (.dK kvs)) (hl:kvs.length<sizeLine):zI H a (kV k) v (upd H a (.dK (putK kvs k v))):=.inl ⟨kvs,k,e,rfl,hl,rfl⟩
def zI.t {H}{k:List Key}(e:H a=some (.dT kvs)) (eb:H b=some (.tup (k.map kV))) (hl:kvs.length<sizeLine):
  zI H a (.ref b) v (upd H a (.dT (putK kvs k v))):=.inr ⟨kvs,k,b,e,rfl,eb,hl,rfl⟩
section
variable {a:aq}{y v:V}{u r:ai}{o:Option V}
def Inv.ZP (I:Inv X ac U H s):sysModules<s.heap.objs.size:=by have h:mainGlobals<s.heap.objs.size:=(I.mod.glob.keeps I.bk).lt;exact m8 δ h
def EU {Q:Aaf}(hu:A.units+1<cLine) (I:Inv X ac U H s) (g:jc H a y (some v)) (ry:RelV y u) (h:∀w' s',Inv X ac U H s'->RelV v w'->Q w' s'):
  wpAny (model X.prog X.w) A (getItem (.ref a) u) Q E s:=by
 rcases g with⟨kvs,k,e,ey,l⟩|⟨kvs,k,b,e,ey,eb,l⟩
 .subst ey;obtain⟨z,hd,vs,rel,dd⟩:=sH I.dh e;obtain⟨w',hw,Bm⟩:=mO.some_of (v:=v) (o:=valueAt vs k) (by rw[l];exact rel.val k);exact wpAny_getItem_of (sF ry) dd.mapOf hw (h w' _ (I.tok _) Bm)
 .subst ey;cases(show u=Value.ref b from ry);obtain⟨z,hd,xs,rel,dd⟩:=uJ I.dh e;obtain⟨w',hw,Bm⟩:=mO.some_of (v:=v) (o:=(atKey xs k).map (·.2)) (by rw[l];exact rel.val k);obtain⟨p,hp,ZQ⟩:=cw.mp hw;refine wpAny_getItem_heap (kP hu) (pQ I.dh eb) dd hp ?_;rw[ZQ];exact h w' _ (I.tok _) Bm
def aaH {Q:Aaf}(hu:A.units+1<cLine) (I:Inv X ac U H s) (g:jc H a y o) (ry:RelV y u) (h:∀s',Inv X ac U H s'->Q (.bool o.isSome) s'):
  wpAny (model X.prog X.w) A (compareOp .In u (.ref a)) Q E s:=by
 rcases g with⟨kvs,k,e,ey,l⟩|⟨kvs,k,b,e,ey,eb,l⟩
 .subst ey;obtain⟨z,hd,vs,rel,dd⟩:=sH I.dh e;refine wpAny_in_of (sF ry) hd dd.mapOf ?_;rw[<-(rel.val k).lI,<-l];exact h _ (I.tok _)
 .subst ey;cases(show u=Value.ref b from ry);obtain⟨z,hd,xs,rel,dd⟩:=uJ I.dh e;refine wpAny_in_heap (kP hu) (pQ I.dh eb) hd dd ?_;have q:=(rel.val k).lI;rw[A_] at q;rw[<-q,<-l];exact h _ (I.tok _)
def Lr (hu:A.units+1<cLine) (I:Inv X ac U H s) (g:jc H a y o) (ry:RelV y u) (h:∀s',Inv X ac U H s'->Q (.bool (!o.isSome)) s'):
  wpAny (model X.prog X.w) A (compareOp .NotIn u (.ref a)) Q E s:=by
 rcases g with⟨kvs,k,e,ey,l⟩|⟨kvs,k,b,e,ey,eb,l⟩
 .subst ey;obtain⟨z,hd,vs,rel,dd⟩:=sH I.dh e;refine wpAny_notIn_of (sF ry) hd dd.mapOf ?_;rw[<-(rel.val k).lI,<-l];exact h _ (I.tok _)
 .subst ey;cases(show u=Value.ref b from ry);obtain⟨z,hd,xs,rel,dd⟩:=uJ I.dh e;refine wpAny_notIn_heap (kP hu) (pQ I.dh eb) hd dd ?_;have q:=(rel.val k).lI;rw[A_] at q;rw[<-q,<-l];exact h _ (I.tok _)
def qI {h':Heap}{t':Nat}{ob:HO}(I:Inv X ac U H s) (mu:Vj (H a)) (hs:Heap.SameBut a s.heap h') (he:∃q,h'.get? a=some q) (new:fD X.prog X.w (upd H a ob) h' a ob):
  Inv X ac U (upd H a ob) {s with heap:=h',toks:=t'}:=
 I.write (x:=a) (e:=a) mu (.inl rfl) (λb q hb z=>(hs.2 b hb).trans z) he new
def BM {P}(z:kvs.length<=sizeLine) (hd:(a==sysModules)=false) (rel:KV kvs vs) (dd:h'.DictOf (fi P w) a vs):
  fD P w H' h' a (.dK kvs):=⟨z,hd,vs,rel,dd⟩
def EV {H':Hp}{Q:Unit->ar->Prop}(hu:A.units+1<cLine) (I:Inv X ac U H s) (g:zI H a y v H') (ry:RelV y u) (rv:RelV v r) (h:∀s',Inv X ac U H' s'->Q () s'):
  wpAny (model X.prog X.w) A (setItem (.ref a) u r) Q E s:=by
 rcases g with⟨kvs,k,e,ey,l,eH⟩|⟨kvs,k,b,e,ey,eb,l,eH⟩
 .subst ey eH;obtain⟨z,hd,vs,rel,dd⟩:=wU I.dh e;have hz:vs.length<=sizeLine:=by rw[<-rel.length];exact z
  have hl:(putK kvs k v).length<=sizeLine:=by have:=gQ kvs k v;omega
  refine wpAny_setItem_pairs (hsz:=hz) (sF ry) dd λh' Ge hs=>h _ ?_;have he:∃q,h'.get? a=some q:=let⟨q,_,_,hq,_⟩:=Ge;⟨q,hq⟩;exact qI I (by rw[e];exact True.intro) hs he (BM hl hd (rel.put k rv) Ge)
 .subst ey eH;cases(show u=Value.ref b from ry);obtain⟨z,hd,xs,rel,dd⟩:=OF I.dh e;have hz:xs.length<=sizeLine:=by rw[<-d9 rel];exact z
  have hl:(putK kvs k v).length<=sizeLine:=by have:=gQ kvs k v;omega
  refine wpAny_setItem_heap (hsz:=hz) (kP hu) (pQ I.dh eb) dd λh' Ge hs=>h _ ?_;obtain⟨q,es,ep,hq,h2,h3,h4,_,h5⟩:=Ge;refine qI I (by rw[e];exact True.intro) hs ⟨q,hq⟩ ⟨hl,hd,_,(rel.put k eb rv).keeps λc ys ec=>?_,q,es,ep,hq,h2,h3,h4,h5⟩;rw[bN (Ol ec e (λz=>nomatch z))];exact ec
end
section
variable {a:aq}{kvs:List (Key×V)}{k:Key}{u:ai}
def V0 {Q:Aaf}(I:Inv X ac U H s) (e:Rd H a (.dK kvs)) (h:∀t s',Inv X ac U H s'->Q (.int kvs.length t) s'):wpAny (model X.prog X.w) A (call (.builtin "len") [.ref a]) Q E s:=by obtain⟨z,hd,vs,rel,dd⟩:=sH I.dh e;refine call_len_dict hd dd (by rw[<-rel.length];rw[kW] at z;omega) ?_;rw[<-rel.length];exact h _ _ (I.tok _)
end
def V1 (i:Expr):Prop:=∀ov iv,subscripted i false ov iv=operate [ov,iv] (getItem ov iv)
def Ls {A}{E}{s}{T id:String}(hl:typeLookup (.type T) "__getitem__"=pure (some (.builtin id))) (hs:V1 slice) (h:wpAny (model prog w) A (eval value env) (λo cZ=>wpAny (model prog w) A (eval slice env) (λi jB=>jB.TypeIs o T/\wpAny (model prog w) A (getItem o i) Q E jB) E cZ) E s):
  wpAny (model prog w) A (eval (.Subscript value slice pos) env) Q E s:=by
 refine Subscript_ (aN h (λo cZ vU=>aN vU (λi jB xS=>?_) λ_ _ x=>x) λ_ _ x=>x);obtain⟨hT,xS⟩:=xS;unfold subscriptTail;refine aa ?_;rw[getitemInPython_of_ne hT.not_modules];refine aa (wpAny_specialOf hT hl ?_);have fin:wpAny (model prog w) A (subscripted slice false o i) (λr lh=>wpAny (model prog w) A (letTemporaryGo value o r>>=λ_=>pure r) Q E lh) E jB:=by rw[hs o i];exact wpAny_operating (aN xS (λr lh vV=>aa (wpAny_letTemporaryGo (au vV))) λ_ _ x=>x)
 first
  |exact au (aa fin)
  |exact aa (au (aa fin))
  |exact aa fin
def zJ {U}{H}{s}(I:Inv X ac U H s) (g:jc H a y o):s.TypeIs (.ref a) "dict":=by
 rcases g with⟨kvs,k,e,_,_⟩|⟨kvs,k,b,e,_,_,_⟩
 .obtain⟨_,_,vs,_,dd⟩:=sH I.dh e;exact dd.typeIs
 .obtain⟨_,_,xs,_,dd⟩:=uJ I.dh e;exact dd.typeIs
section
variable {o i e value:Expr}{pos pos' aas:Pos}{td ty tv:TE}
end
def zK {P}{H}(h:Heap) (hb:sysModules<h.objs.size):fD P w H (h.push {cls:=.type "dict",data:=.dict #[]}) h.objs.size (.dK []):=⟨bH _,fN.mpr (eJ (aW hb)),[],.nil,Heap.DictOf.new h⟩
def zL {P}{H}(h:Heap) (hb:sysModules<h.objs.size):fD P w H (h.push {cls:=.type "dict",data:=.dict #[]}) h.objs.size (.dT []):=⟨bH _,fN.mpr (eJ (aW hb)),[],.nil,_,#[],0,av _ rfl,⟨rfl,rfl,rfl⟩,rfl,rfl,List.nodup_nil⟩
def QZ:TE:=λ_ H Q=>∀p,H p=none->Q (.ref p) (upd H p (.dT []))
section
variable {pos:Pos}
def Hv:PE X (.Dict [] [] pos) QZ:=λac s U H Q I h=>
 wpAny_Dict_empty ⟨.ref s.heap.objs.size,_,I.laid (a:=s.heap.objs.size) (o:=.dT []) (t':=s.toks) (λ_ _ q=>af _ q) (ao _) (zL s.heap I.ZP),rfl,h _ (I.dh.fresh (ao _))⟩
end
def BN:List (TE×TE)->St->Hp->(List (V×V)->Hp->Prop)->Prop
 | [],_,H,Q=>Q [] H
 |(tk,tv)::r,U,H,Q=>tk U H λx H1=>tv U H1 λy H2=>BN r U H2 λps H3=>Q ((x,y)::ps) H3
abbrev VV:List (V×V)->List (ai×ai)->Prop:=Paired λp q=>RelV p.1 q.1/\RelV p.2 q.2
def ZR (X:Cx) (pos:Pos) (keys:List (Option Expr)) (values:List Expr) (trs:List (TE×TE)):Prop:=∀(ac:Aaa) (s:ar) (U:St) (H:Hp) (Q:List (V×V)->Hp->Prop),Inv X ac U H s->BN trs U H Q-> wpAny (model X.prog X.w) X.A (evalPairs (pairTrees keys values X.env pos)) (λvs s'=>∃ps H',Inv X ac U H' s'/\VV ps vs/\Q ps H') X.xe s
def Lu:ZR X pos [] [] []:=λac s U H Q I h=>pairTrees_nil_walk ⟨[],H,I,.nil,h⟩
def Hw (hk:PE X k tk) (hv:PE X v tv) (hr:ZR X pos ks vs trs):
  ZR X pos (some k::ks) (v::vs) ((tk,tv)::trs):=λac s U H Q I h=>
 pairTrees_cons_walk (dq (hk ac s U H _ I h) λu s1 ⟨x,H1,I1,rx,q1⟩=>dq (hv ac s1 U H1 _ I1 q1) λw2 s2 ⟨y,H2,I2,ry,q2⟩=>
  dq (hr ac s2 U H2 _ I2 q2) λws s3 ⟨ps,H3,I3,rel,q3⟩=>⟨(x,y)::ps,H3,I3,.cons ⟨rx,ry⟩ rel,q3⟩)
structure M1 (X:Cx) (o:Expr) (m:Str) (apos:Pos) (e:Expr) (iH:Pos):Prop where
 base:attributeBase o m X.env (eval o X.env)=eval o X.env
 few:((backTo iH (starEach [e] X.env)).all (λx=>!x.1)&&(backToKw iH (keywordEach [] X.env)).all (λx=>x.1.isSome) &&decide (([e]:List Expr).length+([]:List Keyword).length+(if([]:List Keyword).isEmpty then 0 else 1)<30))=true
 line:(apos.endLine==iH.line)=true
 trees:backTo iH (starEach [e] X.env)=[(false,eval e X.env)]
structure M2 (X:Cx) (o:Expr) (m:Str) (apos:Pos) (e f:Expr) (iH:Pos):Prop where
 base:attributeBase o m X.env (eval o X.env)=eval o X.env
 few:((backTo iH (starEach [e,f] X.env)).all (λx=>!x.1)&&(backToKw iH (keywordEach [] X.env)).all (λx=>x.1.isSome) &&decide (([e,f]:List Expr).length+([]:List Keyword).length+(if([]:List Keyword).isEmpty then 0 else 1)<30))=true
 line:(apos.endLine==iH.line)=true
 trees:backTo iH (starEach [e,f] X.env)=[(false,eval e X.env),(false,eval f X.env)]
def IsD (H:Hp) (a:aq):Prop:=(∃kvs,Rd H a (.dK kvs))\/∃kvs,Rd H a (.dT kvs)
def Q0 {U}{H}{s}(I:Inv X ac U H s) (d:IsD H a):
  s.TypeIs (.ref a) "dict"/\(∀b,Value.ref a=.ref b->∃ob,s.heap.get? b=some ob/\ob.dict=none)/\(a==sysModules)=false:=by
 rcases d with⟨kvs,e⟩|⟨kvs,e⟩
 .obtain⟨_,hd,vs,_,dd⟩:=sH I.dh e;refine⟨dd.typeIs,λb q=>?_,hd⟩;cases q;obtain⟨ob,_,_,h1,h2,_⟩:=dd;exact⟨ob,h1,h2.2.1⟩
 .obtain⟨_,hd,xs,_,dd⟩:=uJ I.dh e;refine⟨dd.typeIs,λb q=>?_,hd⟩;cases q;obtain⟨ob,_,_,h1,h2,_⟩:=dd;exact⟨ob,h1,h2.2.1⟩
section
variable {a:aq}{y d:V}{u r:ai}{o:Option V}
def Q3 {Q:Aaf}(hu:A.units+1<cLine) (I:Inv X ac U H s) (g:jc H a y o) (ry:RelV y u) (rd:RelV d r) (h:∀w' s',Inv X ac U H s'->RelV (o.getD d) w'->Q w' s'):
  wpAny (model X.prog X.w) A (call (.builtin "dict.get") [.ref a,u,r]) Q E s:=by
 rcases g with⟨kvs,k,e,ey,l⟩|⟨kvs,k,b,e,ey,eb,l⟩
 .subst ey;obtain⟨z,hd,vs,rel,dd⟩:=sH I.dh e;refine call_meetsIn uo dd.typeIs Ve (Um _ _ _) (meets_dict_get_default (fi X.prog X.w) a (sF ry) hd r) ⟨_,dd.mapOf,h _ _ (I.tok _) ?_⟩;rw[l];exact(rel.val k).getD rd
 .subst ey;cases(show u=Value.ref b from ry);obtain⟨z,hd,xs,rel,dd⟩:=uJ I.dh e;refine call_meetsIn uo dd.typeIs Ve (Um _ _ _) (meetsH_dict_get_default (tupleKind (fi X.prog X.w)) a b hd r) ⟨kP hu,k,xs,pQ I.dh eb,dd,h _ _ (I.tok _) ?_⟩;rw[l];exact(rel.val k).getD rd
end
def Q4 (td ty tx:TE):TE:=λU H Q=>td U H λx H1=>∃a,x=.ref a/\IsD H1 a/\ty U H1 λy H2=>tx U H2 λz H3=>∃o,jc H3 a y o/\Q (o.getD z) H3
section
variable {o e f:Expr}{apos iH:Pos}{td ty tx:TE}
def Hx (hu:X.A.units+1<cLine) (ho:PE X o td) (he:PE X e ty) (hf:PE X f tx) (m:M2 X o "get" apos e f iH):PE X (.Call (.Attribute o "get" apos) [e,f] [] iH) (Q4 td ty tx):=by
 intro ac s U H Q I h;refine wpAny_Call_method m.base m.few m.line Uo uo PySem.F.type_dict_get (dq (ho ac s U H _ I h) λu s1 ⟨x,H1,I1,rx,a,ex,d,q1⟩=>?_);subst ex;obtain rfl:u=Value.ref a:=rx;obtain⟨t1,t2,_⟩:=Q0 I1 d;refine⟨t1,t2,?_⟩;rw[m.trees];refine lV rfl (Ba (Gq (dq (he ac s1 U H1 _ I1 q1) λiv s2 ⟨y,H2,I2,ry,q2⟩=>
  Gq (dq (hf ac s2 U H2 _ I2 q2) λfv s3 ⟨z,H3,I3,rz,ov,g,q3⟩=>Calls.spliced_nil ?_))));exact Q3 hu I3 g ry rz λw' s4 I4 Bm=>⟨_,H3,I4,Bm,q3⟩
end
section
variable {a:aq}{kvs:List (Key×V)}
end
section
variable {a:aq}{y:V}{u:ai}
end
section
variable {d c:aq}{es:Array DictEntry}{ep i:Nat}
end
def Paired.get' {α β:Type}{F:α->β->Prop}:∀{l₁:List α}{l₂:List β}{i:Nat}{a:α},Paired F l₁ l₂->l₁[i]?=some a->∃b,l₂[i]?=some b/\F a b
 |_,_,_,_,.nil,e=>by simp at e
 |_,_,0,_,.cons h _,e=>by simp at e;subst e;exact⟨_,rfl,h⟩
 |_,_,i+1,_,.cons _ t,e=>by simpa using Paired.get' (i:=i) t (by simpa using e)
def zM:∀{xs:Aac}{us:Aad},xs.length=us.length->(∀(i:Nat) x u,xs[i]?=some x->us[i]?=some u->RelV x u)->cx xs us
 | [],[],_,_=>.nil
 |x::xs,u::us,l,h=>.cons (h 0 x u rfl rfl) (zM (by simpa using l) λi y v h1 h2=>h (i+1) y v (by simpa using h1) (by simpa using h2))
 | [],_::_,l,_=>by simp at l
 |_::_,[],l,_=>by simp at l
def Q5 (tk tv:TE):TE:=λU H Q=>∀p,H p=none->tk U (upd H p (.dT [])) λy H1=>tv U H1 λv H2=>∃k b,y=.ref b/\H2 p=some (.dT [])/\H2 b=some (.tup (k.map kV))/\Q (.ref p) (upd H2 p (.dT [(k,v)]))
def Q6 (p:aq) (Q:VK) (ps:List (V×V)) (H2:Hp):Prop:=∃y v,ps=[(y,v)]/\∃k b,y=.ref b/\H2 p=some (.dT [])/\H2 b=some (.tup (k.map kV))/\Q (.ref p) (upd H2 p (.dT [(k,v)]))
def EW {U}{H}{s}(hu:X.A.units+1<cLine) (I:Inv X ac U H s) (rel:VV ps ws) (q:Q6 p Q ps H):
  wpAny (model X.prog X.w) X.A (storeAll p ws) (λ_ s2=>EP X ac U Q (.ref p) s2) X.xe s:=by
 obtain⟨y,v,rfl,k,b,rfl,e3,e4,q2⟩:=q;cases rel with
 |cons r t=>rename_i pw _;cases t;obtain⟨w1,w2⟩:=pw;obtain⟨r1,r2⟩:=r;have e1:w1=Value.ref b:=r1;subst e1;obtain⟨z,nm,xs,rl,dd⟩:=OF I.dh e3;cases rl;unfold storeAll;simp only[tT,KE];refine aa (aa ?_);refine wpAny_dictSet_heap (hsz:=by simp) (knd:=tupleKind (fi X.prog X.w)) (show X.A.units<cLine by omega) (pQ I.dh e4) dd λh' Ge hs=>?_;refine au (au ?_);obtain⟨o,es,ep,hq,h2,h3,h4,_,h5⟩:=Ge;refine⟨.ref p,_,qI I (by rw[e3];exact True.intro) hs ⟨o,hq⟩ (ob:=.dT [(k,v)]) ⟨Bh,nm,_,Paired.cons ⟨rfl,?_,r2⟩ .nil,o,es,ep,hq,h2,h3,h4,h5⟩,rfl,q2⟩;rw[bN (Ol e4 e3 (λz=>nomatch z))];exact e4
def zN (hu:X.A.units+1<cLine) (hk:PE X k tk) (hv:PE X v tv) (mono:∀U H (Q Q':VK),(∀x H1,Q x H1->Q' x H1)->tv U H Q->tv U H Q') (V2:∀U H (Q Q':VK),(∀x H1,Q x H1->Q' x H1)->tk U H Q->tk U H Q'):PE X (.Dict [some k] [v] pos) (Q5 tk tv):=by
 intro ac s U H Q I q;have I1:=I.laid (a:=s.heap.objs.size) (o:=.dT []) (h':=s.heap.push {cls:=.type "dict",data:=.dict #[]}) (t':=s.toks) (λ_ _ q=>af _ q) (ao _) (zL s.heap I.ZP);have q1:=q _ (I.dh.fresh (ao s.heap.objs.size));have pp:ZR X pos [some k] [v] [(tk,tv)]:=Hw hk hv Lu;have q2:BN [(tk,tv)] U (upd H s.heap.objs.size (.dT [])) (Q6 s.heap.objs.size Q):=by show tk U _ λx H1=>tv U H1 λy H2=>Q6 s.heap.objs.size Q [(x,y)] H2;exact V2 _ _ _ _ (λx H1 h=>mono _ _ _ _ (λy H2 h2=>⟨x,y,rfl,h2⟩) h) q1
 refine wpAny_Dict_any (by rfl) (by rfl) (λz=>by cases z) (by show 1<=15;decide) ?_;refine dq (pp ac _ U _ _ I1 q2) λws s2 fh=>?_;obtain⟨ps,H2,I2,rel,qq⟩:=fh;exact EW hu I2 rel qq
def qJ {A}{s}(I:Nat->ar->Prop) (turn:∀n s,I n s->wpAny (model prog w) A (pyNext it) (λr cZ=>match r with
   |none=>R (.ok .next) cZ
   |some v=>wpAny (model prog w) A (letOwnedTupleGo target it v) (λ_ cZ=>wpAny (model prog w) A (assign target env v) (λ_ jB=>
    wpAny (model prog w) A (forIn ifs true λc r=>if r=true then do let ok<-isTrue c env (eval c env);pure (ForInStep.yield ok) else pure (ForInStep.yield r)) (λok lh=>
     if ok=true then wpAny (model prog w) A (eval kx env) (λx uD=>wpAny (model prog w) A (eval vx env) (λy uE=>
      wpAny (model prog w) A (dictSet D x y) (λ_ V3=>∃m,m<n/\I m V3) (notedBy (model prog w) A env λe s'=>R (.error e) s') uE) (notedBy (model prog w) A env λe s'=>R (.error e) s') uD) (notedBy (model prog w) A env λe s'=>R (.error e) s') lh
     else∃m,m<n/\I m lh) (notedBy (model prog w) A env λe s'=>R (.error e) s') jB) (notedBy (model prog w) A env λe s'=>R (.error e) s') cZ)
    (notedBy (model prog w) A env λe s'=>R (.error e) s') cZ) (notedBy (model prog w) A env λe s'=>R (.error e) s') s)
  (n:Nat) (h:I n s):codeAny (model prog w) A (.compLoop (.DictComp kx vx [⟨target,iter,ifs,0⟩] scope pos) 0 it (.ref D) env) R s:=by
 refine KC rfl I (λn s hI=>?_) n h;refine(?_:wpAny _ A ((compTurn (.DictComp kx vx [⟨target,iter,ifs,0⟩] scope pos) 0 it (.ref D) env).onRaise (λx=>do noteFrame x env;theTreesLotGoes x)) _ _ s);refine Ul ?_;rw[compTurn_dict];refine aa (dP (aa (aN (turn n s hI) (λr cZ V4=>?_) λ_ _ z=>z)));cases r with
 |none=>exact au V4
 |some v=>
  refine aa (aN V4 (λ_ jB aaI=>aa (aN aaI (λ_ lh aaJ=>aa (aN aaJ (λok uD V5=>?_) λ_ _ z=>z)) λ_ _ z=>z)) λ_ _ z=>z);cases ok with
  |false=>exact au ⟨rfl,V5⟩
  |true=>exact aa (aa (aN V5 (λkv uE aaK=>aa (cf (aN aaK (λvv V3 aaL=>aa (dP (cf (aN aaL (λ_ acD aaM=>au ⟨rfl,aaM⟩) λ_ _ z=>z)))) λ_ _ z=>z))) λ_ _ z=>z))
def Q7 (J:It) (g:TG) (tc:TT) (te tv:TE) (kr:St) (H1:Hp) (Q:VK) (D:aq):Prop:=∃W:Nat->Nat->St->Hp->Prop,(∃m,W 0 m kr (upd H1 D (.dK [])))/\∀i m de H',W i m de H'-> (J.stop i H'/\Q (.ref D) H')\/(J.go i H'/\∃(N:St->Hp->Prop) (M:V->V->St->Hp->Prop),(∀cz H4,N cz H4->∃m',m'<m/\W (i+1) m' cz H4)/\ (∀y z cz H5,M y z cz H5->∃kvs k m',y=kV k/\H5 D=some (.dK kvs)/\kvs.length<sizeLine/\m'<m/\W (i+1) m' cz (upd H5 D (.dK (putK kvs k z))))/\ ∀x H2,J.vR i H' x H2->g x de H2 λcz H3=>tc cz H3 λb H4=>if b=true then te cz H4 λy H5=>tv cz H5 λz H6=>M y z cz H6 else N cz H4)
def tDC (wi:TI) (r:List (Option Nat)) (g:TG) (tc:TT) (te tv:TE):TE:=λU H Q=>wi U H λJ H1=>∀D,H1 D=none->Q7 J g tc te tv (r.map (pick U)) H1 Q D
def Hy {i0:Nat}{x0:Str}{pos' BH:Pos}{kx vx tg iter:Expr}{ifs:List Expr}{scope:Scope}{pos:Pos}{wi:TI}{N:Aab}{r:List (Option Nat)}{g:TG}{tc:TT}{te tv:TE}(hN:X.N.Nodup) (VT:X.N[i0]?=some x0) (hx:Loc X.env.scope x0) (hc:X.calm=true) (hi:PI X tg iter wi) (S:cY X scope N r) (hg:∀s H fp,PG (X.mD N scope s H fp) tg g) (ht:∀s H fp,C_ (X.mD N scope s H fp) ifs tc) (he:∀s H fp,PE (X.mD N scope s H fp) kx te) (hv:∀s H fp,PE (X.mD N scope s H fp) vx tv) (VU:swapsWith (.DictComp kx vx [⟨tg,iter,ifs,0⟩] scope pos) (some (.Name x0 pos')) BH.line X.env=pure true:=by rfl) (hs:∀x,foldedSetIterable iter X.env x=pure x:=by intro _;rfl) (hf:X.fn x0=true\/X.env.scope.names.lookup x0=some .local:=by first|exact .inl rfl|exact .inr rfl|assumption):
  PS X (.Assign [.Name x0 pos'] (.DictComp kx vx [⟨tg,iter,ifs,0⟩] scope pos) BH) (Bl (tDC wi r g tc te tv) (d_ i0)):=by
 intro ac s U H DD I h;rw[y0 _ _ _ _ VU];refine aa (dP (aa ?_));show wpAny _ X.A (do let _<-comprehension (.DictComp kx vx [⟨tg,iter,ifs,0⟩] scope pos) scope X.env _ newDict false (eval iter X.env) (some (assign (.Name x0 pos') X.env))) _ _ s;refine aa (aN (?_:wpAny _ X.A _ (λ_ s'=>SP X ac DD .next s') _ s) (λ_ s' hq=>au (au hq)) λ_ _ e=>e);have zA:closureFor scope X.env=pure (eY scope X.env):=fO λy hy hk=>I.ok.has y.1 (S.out y hy hk);refine g9 (use:=some (assign (.Name x0 pos') X.env)) rfl hs zA S.kind S.own ?_;show wpAny _ _ (eval iter X.env) _ _ s;refine dq (hi ac s U H _ I h) λv s1 h1=>dq h1 λQn s2 h2=>?_;obtain⟨it,fp,tn,J,H2,e,I2,T,qb,f2,q2⟩:=h2;subst e;have hD:H2 s2.heap.objs.size=none:=I2.dh.fresh (ao _);obtain⟨W,⟨m0,w0⟩,turn⟩:=q2 _ hD;have mP:∀b∈fp,b<s2.heap.objs.size:=λb hb=>by obtain⟨o,e,_⟩:=T.obj _ _ qb b hb;exact aG e
 refine bS ?_;generalize uc:({s2 with heap:=s2.heap.push {cls:=.type "dict",data:=.dict #[]}}:ar)=s3;have k3:∀b o,s2.heap.get? b=some o->s3.heap.get? b=some o:=λb o e=>by rw[<-uc];exact af _ e
 have z3:s3.heap.objs.size=s2.heap.objs.size+1:=by rw[<-uc];exact bP ..
 have u3:Un (nV X.stack) fp H2 (upd H2 s2.heap.objs.size (.dK [])) s2.heap s3.heap:=Un.laid k3 (ao _) hD;have o3:s3.os=s2.os:=by rw[<-uc]
 have I3:Inv X ac U (upd H2 s2.heap.objs.size (.dK [])) s3:=by rw[<-uc];exact I2.laid (t':=s2.toks) (λb u e=>af _ e) (ao _) (zK s2.heap I2.ZP)
 have f3:∀b∈fp,gn X ac (upd H2 s2.heap.objs.size (.dK [])) b:=λb hb=>⟨by rw[bN (aW (mP b hb))];exact(f2 b hb).1,(f2 b hb).2⟩;refine gS S.jm (by intro y hy;simp at hy) (λh4 xT xU=>?_) S.kind;have k4:∀b o,s3.heap.get? b=some o->h4.get? b=some o:=λb o e=>xU.extBut b o (aW (aG e)) (af _ e);have J4:Inv (X.mD N scope s3 (upd H2 s2.heap.objs.size (.dK [])) fp) [] (r.map (pick U)) (upd H2 s2.heap.objs.size (.dK [])) {s3 with heap:=h4,toks:=s3.toks+([]:List (Str×ai)).length}:=lG S I3 f3 (λb hb=>by rw[z3];exact b8 (mP b hb)) xT k4;have Dd:tn 0 h4:=T.keep _ _ _ qb λb _ o e=>k4 b o (k3 b o e);have kf:∀{H':Hp},(∀b∈fp,H' b=none)->∀b∈fp,gn (X.mD N scope s3 (upd H2 s2.heap.objs.size (.dK [])) fp) [] H' b:=λhn b hb=>
  ⟨hn b hb,(J4.ok.AY b hb).1,J4.ok.rF b hb,.inl hb,(J4.ok.AY b hb).2,λp hp=>absurd (show p∈([]:Aaa) from hp) ς⟩;generalize hY:X.mD N scope s3 (upd H2 s2.heap.objs.size (.dK [])) fp=Y at*;have loop:∀s4:ar,s4={s3 with heap:=h4,toks:=s3.toks+([]:List (Str×ai)).length}-> codeAny (model X.prog X.w) X.A (.compLoop (.DictComp kx vx [⟨tg,iter,ifs,0⟩] scope pos) 0 (.ref it) (.ref s2.heap.objs.size) Y.env) (compPost (model X.prog X.w) X.A X.xe (some (assign (.Name x0 pos') X.env)) (λ_ s'=>SP X ac DD .next s') (.ref s2.heap.objs.size) s3.heap.objs.size) s4:=by
  rintro s4 rfl;have yp:Y.prog=X.prog:=by rw[<-hY]
  have yw:Y.w=X.w:=by rw[<-hY]
  have yK:Y.K=X.K:=by rw[<-hY]
  have yA:Y.A=X.A:=by rw[<-hY]
  have yc:Y.calm=true:=by rw[<-hY];exact hc
  have Lf:PG Y tg g:=by rw[<-hY];exact hg _ _ _
  have Lg:C_ Y ifs tc:=by rw[<-hY];exact ht _ _ _
  have Lh:PE Y kx te:=by rw[<-hY];exact he _ _ _
  have hvY:PE Y vx tv:=by rw[<-hY];exact hv _ _ _
  have yx:∀e s',¬Y.xe e s':=λe s' z=>by rw[<-hY] at z;exact z
  refine qJ (λn s'=>∃i de H',Inv Y [] de H' s'/\tn i s'.heap/\(∀b∈fp,H' b=none)/\W i n de H') ?_ m0 ⟨0,_,_,J4,Dd,λb hb=>(f3 b hb).1,w0⟩;rintro n s5 ⟨i,ud,H5,I5,yV,AZ,w5⟩;rcases turn i n ud H5 w5 with⟨stop,qn⟩|⟨go,Nn,Mm,Kf,QM,step⟩
  .have d:=T.done Y yp yw yK yc i [] s5 ud H5 (notedBy (model X.prog X.w) X.A Y.env λe s'=>compPost (model X.prog X.w) X.A X.xe (some (assign (.Name x0 pos') X.env)) (λ_ s'=>SP X ac DD .next s') (.ref s2.heap.objs.size) s3.heap.objs.size (.error e) s') I5 (kf AZ) yV stop;rw[yA] at d;refine dq d λrr s6 fh=>?_;obtain⟨hr,I6⟩:=fh;subst hr;obtain⟨m,hn,_⟩:=id I6.loc;rw[<-hY] at I6 hn;have IX:Inv X ac U H5 s6:=qF I2 f2 u3 (by rw[z3];exact dg _) o3 I6 (KD _ _);have hC:H5 s3.heap.objs.size=none:=I6.free;obtain⟨f0,f1,f2',VW,f4,f5⟩:=I3.pL (ao _) hC;refine tQ (nX IX hN VT hx (show RelV (V.ref s2.heap.objs.size) _ from rfl) (λs7 I7 fh=>?_) hf);obtain⟨a,Hl,ha⟩:=fh;have VX:s3.heap.objs.size≠a:=by
    rcases ha with rfl|ha
    .exact f1
    .exact λz=>f4 _ _ ha z.symm
   refine⟨m,Va hn Hl VX,λh' Hi=>⟨_,H5,I7.turned (t':=s7.toks) (it:=s3.heap.objs.size) (λb o hb e=>Hi.extBut b o hb e) hC f1 VW f4 f5,qn⟩⟩
  .have d:=T.item Y yp yw yK yc i [] s5 ud H5 (notedBy (model X.prog X.w) X.A Y.env λe s'=>compPost (model X.prog X.w) X.A X.xe (some (assign (.Name x0 pos') X.env)) (λ_ s'=>SP X ac DD .next s') (.ref s2.heap.objs.size) s3.heap.objs.size (.error e) s') I5 (kf AZ) yV go;rw[yA] at d;refine dq d λrr s6 fh=>?_;obtain⟨u,hr,h6⟩:=fh;subst hr;refine dq h6 λ_ s7 fh=>?_;obtain⟨x,H7,I7,r7,y7,xV,Li⟩:=fh;have Lj:=I7.pinned (kf Li) (T.obj _ _ xV);have g7:=Lf _ s7 ud H7 x u _ Lj r7 (step x H7 y7);rw[yp,yw,yA] at g7;refine aN g7 (λ_ s8 fh=>?_) λe s' z=>(yx e s' z).elim;obtain⟨qc,H8,I8,q8⟩:=fh;have t8:=Lg _ s8 qc H8 _ I8 q8;rw[yp,yw,yA] at t8;refine aN t8 (λok s9 fh=>?_) λe s' z=>(yx e s' z).elim;obtain⟨H9,I9,q9⟩:=fh;have again:∀{jW:ar} {og:Hp} {m':Nat},Inv Y ([]++ke fp s7.heap) qc og jW->m'<n->W (i+1) m' qc og->∃m,m<n/\∃i de H',Inv Y [] de H' jW/\tn i jW.heap/\(∀b∈fp,H' b=none)/\W i m de H':=λ{jW og m'} rN hm wK=>by refine⟨m',hm,i+1,qc,og,rN.gf,T.keep _ _ _ xV λb hb o e=>(rN.pin (b,o) (aD _ (aD _ (eK hb e)))).1,λb hb=>?_,wK⟩;obtain⟨o,e,d⟩:=T.obj _ _ xV b hb;exact(rN.pin (b,o) (aD _ (aD _ (eK hb e)))).2.1
   cases ok with
   |false=>rw[aI ς] at q9⊢;obtain⟨m',hm,w9⟩:=Kf _ _ q9;exact again I9 hm w9
   |true=>rw[aJ rfl] at q9⊢;have e9:=Lh _ s9 qc H9 _ I9 q9;rw[yp,yw,yA] at e9;refine aN e9 (λuu jW fh=>?_) λe s' z=>(yx e s' z).elim;obtain⟨y,og,rN,OD,q10⟩:=fh;have V6:=hvY _ jW qc og _ rN q10;rw[yp,yw,yA] at V6;refine aN V6 (λvv De fh=>?_) λe s' z=>(yx e s' z).elim;obtain⟨z,ZK,Hj,r11,hM⟩:=fh;obtain⟨kvs,k,m',ek,Hz,hz,hm,V7⟩:=QM _ _ _ _ hM;subst ek;obtain⟨_,hd,ws,rel,dd⟩:=wU Hj.dh Hz;rw[yp,yw] at dd;refine wpAny_dictSet_pairs (hsz:=by rw[<-rel.length];exact d7 hz) (sF OD) dd λh' Ge QW=>?_;have UE:=qI (t':=De.toks+1) Hj (ob:=.dK (putK kvs k z)) (by rw[Hz];exact True.intro) QW (let⟨q,_,_,hq,_⟩:=Ge;⟨q,hq⟩) (by rw[yp,yw];exact BM (by have:=gQ kvs k z;omega) hd (rel.put k r11) Ge);exact again UE hm V7
 have Lk:Y.env={scope:=relabel scope X.env,locals:=s3.heap.objs.size,globals:=X.env.globals,cells:=eY scope X.env,qual:=X.env.qual,func:=none,code:=X.env.code,frame:=X.env.frame,builtins:=X.env.builtins}:=by rw[<-hY];rfl
 rw[Lk] at loop;exact codeAny_compStart_dict (loop _ rfl) (T.self _ 0 _ _ _ Dd (loop _ rfl))
def Q8 {f:Nat->V} (Iv:Nat->List (Key×V)->St->Hp->Prop) (hD:H1 D=none) (hn:n<=1000) (h0:Iv 0 [] kr (upd H1 D (.dK []))) (hj:∀i kvs U H,i<=n->H D=some (.dK kvs)->Iv i kvs U H->(i=n->J.stop i H)/\(i<n->J.go i H/\∀x H',J.vR i H x H'->H'=H/\x=f i)) (hs:∀i kvs U H,i<n->H D=some (.dK kvs)->Iv i kvs U H->g (f i) U H λcz H3=>te cz H3 λy H5=>tv cz H5 λz H6=>∃k,y=kV k/\H6 D=some (.dK kvs)/\Iv (i+1) (putK kvs k z) cz (upd H6 D (.dK (putK kvs k z)))) (hd:∀kvs U H,H D=some (.dK kvs)->Iv n kvs U H->Q (.ref D) H):Q7 J g lF te tv kr H1 Q D:=by
 refine⟨λi m U H=>m=n-i/\i<=n/\∃kvs,H D=some (.dK kvs)/\kvs.length<=i/\Iv i kvs U H,⟨n,rfl,bH _,[],ba,ao _,h0⟩,?_⟩;rintro i m U H ⟨rfl,hi,kvs,hk,lk,iv⟩;obtain⟨stop,go⟩:=hj i kvs U H hi hk iv;by_cases e:i=n
 .exact .inl ⟨stop e,hd kvs U H hk (by rw[<-e];exact iv)⟩
 .obtain⟨go1,Kg⟩:=go ω;refine .inr ⟨go1,λ_ _=>False,λy z cz H6=>∃k,y=kV k/\H6 D=some (.dK kvs)/\Iv (i+1) (putK kvs k z) cz (upd H6 D (.dK (putK kvs k z))),λ_ _ z=>z.elim,?_,λx H' y=>?_⟩
  .rintro y z cz H6 ⟨k,ek,h6,iv6⟩;refine⟨kvs,k,n-(i+1),ek,h6,lD ω,ω,rfl,ω,_,ba,?_,iv6⟩;have:=gQ kvs k z;omega
  .obtain⟨rfl,rfl⟩:=Kg x H' y;have:=hs i kvs U H' ω hk iv;exact this
def zO (t:aq) (o:Obj) (vs:Array ai) (n:Nat) (hc:o.cls=.type "list") (hd:o.data=.seq vs n):
  Meets (Builtin.«enumerate.__new__» ⟨[.type "enumerate",.ref t],[]⟩) (λ_ R s=>s.heap.get? t=some o/\ R (.ok (.ret (.ref (s.heap.push {cls:=.type "list_iterator",data:=.fields #[.ref t,.int 0 0]}).objs.size))) {s with heap:=(s.heap.push {cls:=.type "list_iterator",data:=.fields #[.ref t,.int 0 0]}).push {cls:=.type "enumerate",data:=.fields #[.none,.bool false,.ref s.heap.objs.size,rawInt 0,.none,.none]}}):=
 .of_wp λprog w A R s h=>by
  obtain⟨hp,g,d,tk,os⟩:=s;obtain⟨g_,h⟩:=h;have EM:=sub_enumerate;have wL:Heap.IsList (Shared.heap ⟨hp,g,d,tk,os⟩) t vs:=⟨_,g_,hc,n,hd⟩;obtain⟨oc,od,oda,qy⟩:=o;cases(show oc=Value.type "list" from hc);cases(show oda=Data.seq vs n from hd)
  wp_walk using fJ g_
  refine wpAny_stack_any λst=>au ?_;split
  .rename_i c _ _ _ _ _;cases(c==Value.type "enumerate")<;>(wp_walk using fJ g_,dQ wL;exact⟨_,rfl,h⟩)
  .wp_walk using fJ g_,dQ wL
   exact⟨_,rfl,h⟩
def BO (wL:s.heap.IsList t vs) (q:∀h',IsEnum h' (s.heap.objs.size+1) s.heap.objs.size 0 .none->h'.IsListIter s.heap.objs.size t 0->(∀b o,s.heap.get? b=some o->h'.get? b=some o)->Q (.ref (s.heap.objs.size+1)) {s with heap:=h'}):
  wpAny (model prog w) A (call (.type "enumerate") [.ref t]) Q E s:=by
 obtain⟨o,g_,hc,n,hd⟩:=wL;refine callType_new F.called_enumerate δ (F.typeCall_enumerate_1 _) (F.newCall_enumerate_1 _) (λobj=>F.args_object_init_2 obj _) F.entry_enumerate_new (zO t o vs n hc hd) ⟨g_,?_⟩;have sz:(s.heap.push {cls:=.type "list_iterator",data:=.fields #[.ref t,.int 0 0]}).objs.size=s.heap.objs.size+1:=bP ..;refine(?_:_/\_);rw[sz];have Hn:IsEnum ((s.heap.push {cls:=.type "list_iterator",data:=.fields #[.ref t,.int 0 0]}).push {cls:=.type "enumerate",data:=.fields #[.none,.bool false,.ref s.heap.objs.size,rawInt 0,.none,.none]}) (s.heap.objs.size+1) s.heap.objs.size 0 .none:=by rw[<-sz];exact av _ rfl
 exact⟨⟨_,Hn,rfl⟩,q _ Hn ⟨_,af _ (av _ rfl),rfl,rfl⟩ λb o e=>af _ (af _ e)⟩
def UG (K:Φ) (a:aq):It:=⟨λi H=>∃xs x,gj K H a xs/\xs[i]?=some x,λi H y H'=>∃T x,H T=none/\y=.ref T/\H'=upd H T (.tup [.int i,x])/\∀xs,gj K H a xs->xs[i]?=some x,λi H=>∃xs,gj K H a xs/\i=xs.length⟩
def BP {P:aQ}{w:bg}{K:Φ}{elts:List Expr}{kk:Nat}{tp:Pos}(a e it:aq) (QV:e≠it):Turn P w K (.Tuple elts kk tp) (UG K a) [e,it] e (λi h=>(∃old,IsEnum h e it i old)/\h.IsListIter it a i) where
 mem:=ς
 obj:=λi h st b hb=>by
  obtain⟨⟨old,e1⟩,⟨o,o1,o2,o3⟩⟩:=st;simp only[aU,bF,eE] at hb;rcases hb with rfl|rfl
  .exact⟨_,e1,λv z=>by have z':Data.fields _=Data.cell v:=z;cases z'⟩
  .exact⟨o,o1,λv z=>by rw[o3] at z;cases z⟩
 keep:=λi h h' st kp=>by obtain⟨⟨old,e1⟩,⟨o,o1,o2⟩⟩:=st;exact⟨⟨old,kp e ς _ e1⟩,⟨o,kp it ς o o1,o2⟩⟩
 item:=by
  intro X hP hw hK hc i ac s U H E I hf st hg;subst hP hw hK;obtain⟨xs,x,hq,hx⟩:=hg;obtain⟨bV,rv,p,hz⟩:=I.list hq;obtain⟨u,hu,ru⟩:=rv.get hx;obtain⟨⟨old,e1⟩,qb⟩:=st;obtain⟨jo,j1,j2,j3⟩:=id qb;have p':s.heap.IsList a bV.toArray:=p.isList;obtain⟨to,t1,t2,_⟩:=id p';have Ka:a≠it:=λz=>by rw[z,j1] at t1;cases t1;rw[j2] at t2;exact absurd t2 δ
  have nea:e≠a:=λz=>by rw[<-z,e1] at t1;cases t1;exact absurd (show Value.type "enumerate"=Value.type "list" from t2) δ
  have lt:∀b∈[e,it],b<s.heap.objs.size:=λb hb=>by
   simp only[aU,bF,eE] at hb;rcases hb with rfl|rfl
   .exact aG e1
   .exact aG j1
  have ZM:i<bV.length:=(aF.mp hu).1;refine wpAny_pyNext_enum_itemD (Draws.list (A:=X.A.in1) (I.ok.hd hc) it a Ka bV.toArray) e1 ⟨qb,p'⟩ (by simpa using ZM) QV (by simp[QV,nea]) λx' h' tk hP ho QW hT hsz hk=>?_;have ex:x'=u:=by
   have:bV[i]?=some x':=by simpa using hP
   rw[hu] at this;exact(bf this).symm
  subst ex;refine⟨_,rfl,wpAny_letOwnedTupleGo_enum ho λh2 he2 Lp=>?_⟩;have nT:s.heap.objs.size≠e:=fc (lt e ς);obtain⟨f1,f2,f3⟩:=I.out (h':=h2) (t':=tk+1) (xs:=[.int i,x]) (us:=[.int i tk,x']) hf lt (.cons ⟨tk,rfl⟩ (.cons ru .nil)) (Bh) (λb o hb q=>(Lp.2 b (λz=>hb (by simp[z]))).trans (hk b o (λz=>hb (by simp[z])) (λz=>hb (by simp[z])) q)) ((Lp.2 _ nT).trans hT);obtain⟨⟨io,i1,i2⟩,_⟩:=QW;exact⟨.ref s.heap.objs.size,_,f2,rfl,⟨_,x,f1,rfl,rfl,λys hy=>by rw[I.zf hy hq];exact hx⟩,⟨⟨x',by simpa using he2⟩,⟨io,(Lp.2 it QV.symm).trans i1,i2⟩⟩,f3⟩
 done:=by
  intro X hP hw hK hc i ac s U H E I hf st hg;subst hP hw hK;obtain⟨xs,hq,hx⟩:=hg;obtain⟨bV,rv,p,hz⟩:=I.list hq;obtain⟨⟨old,e1⟩,qb⟩:=st;obtain⟨jo,j1,j2,j3⟩:=id qb;have p':s.heap.IsList a bV.toArray:=p.isList;obtain⟨to,t1,t2,_⟩:=id p';have Ka:a≠it:=λz=>by rw[z,j1] at t1;cases t1;rw[j2] at t2;exact absurd t2 δ
  have hl:=rv.length;have ei:i=bV.toArray.size:=by rw[aC];omega
  refine wpAny_pyNext_enum_endD (Draws.list (A:=X.A.in1) (I.ok.hd hc) it a Ka bV.toArray) e1 (by rw[<-ei];exact⟨qb,p'⟩) λh' eb=>⟨rfl,I.ue (t':=s.toks) hf λb o hb q=>eb b o (λz=>hb (by simp[z])) q⟩
 self:=λ_ _ _ _ _ st q=>by obtain⟨⟨old,e1⟩,_⟩:=st;exact tV e1 q
def EX {K:Φ}{a:aq}{xs:Aac}{g:TG}{tb:TS}{D:Ends}{U:St}{H:Hp}(Pv:Nat->St->Hp->Prop) (h0:Pv 0 U H) (hl:∀i U H,i<=xs.length->Pv i U H->gj K H a xs) (hs:∀i x U H T,xs[i]?=some x->Pv i U H->H T=none->g (.ref T) U (upd H T (.tup [.int i,x])) λcz H2=>tb {D with nx:=Pv (i+1),ct:=Pv (i+1),bk:=D.nx} cz H2) (hd:∀U H,Pv xs.length U H->D.nx U H):
  ∃W:Nat->Nat->St->Hp->Prop,(∃m,W 0 m U H)/\∀i m U H,W i m U H-> ((UG K a).stop i H/\D.nx U H)\/((UG K a).go i H/\∃N:St->Hp->Prop,(∀de H',N de H'->∃m',m'<m/\W (i+1) m' de H')/\∀x H',(UG K a).vR i H x H'->g x U H' λcz H2=>tb {D with nx:=N,ct:=N,bk:=D.nx} cz H2):=by
 refine⟨λi m U H=>m=xs.length-i/\i<=xs.length/\Pv i U H,⟨xs.length,ς,bH _,h0⟩,?_⟩;rintro i m U H ⟨rfl,hi,iv⟩;have sq:=hl i U H hi iv;rcases Vc i xs.length with lt|ge
 .refine .inr ⟨⟨xs,xs[i],sq,by simp[lt]⟩,Pv (i+1),λde H' p'=>⟨xs.length-(i+1),ω,rfl,lt,p'⟩,λx H' y=>?_⟩;obtain⟨T,z,f1,rfl,rfl,f2⟩:=y;exact hs i z U H T (f2 xs sq) iv f1
 .have e:i=xs.length:=ω;subst e;exact .inl ⟨⟨xs,sq,rfl⟩,hd U H iv⟩
def EY (a d:ai):argsOk "min" ⟨[a],[("default",d)]⟩:=by unfold argsOk;kernel_rfl
def Di {id:String} (h1:builtinKind id=none) (h2:plainId id=true) (h3:entryFor table id=some b) (h4:argsOk id ⟨args,kw⟩) (q:wpAny (model prog w) A.in1 (b ⟨args,kw⟩) (λfin s'=>match fin with
   | .done f=>(match (Except.ok f:Result) with| .ok (.ret v)=>Q v s'| .ok _=>False| .error e=>E e s')
   | .again c'=>c'.quiet=true/\codeAny (model prog w) A c' (λr s'=>match r with| .ok (.ret v)=>Q v s'| .ok _=>False| .error e=>E e s') s') E s):wpAny (model prog w) A (call (.builtin id) args kw) Q E s:=by
 refine m7 (codeAny_call_builtin h2 h3 ?_);simp only[checkBuiltinCall,h1];cases e:Manifest.signature? id with
 |none=>exact au q
 |some sig=>
  have a:Bind.checkArgs id sig ⟨args,kw⟩=pure ():=by simpa only[argsOk,e] using h4
  simp only[a];exact au q
section
variable {R:Result->ar->Prop}{I:aq}{fp wr:List aq}{n:Nat}{P:Nat->ai->Prop}{St:Nat->Heap->Prop}
def EZ (W:Walks prog w A.in1 I fp wr n P St) (bt:Nat->Nat->Bool) (cmp:CmpOf prog w A.in1 .Lt P bt) (S:aq) (out:S∉fp) (kw:List (Str×ai)):
  ∀(k j:Nat) (s:ar) (vb:ai) (c:Nat),n-(j+1)=k->j+1<=n->St (j+1) s.heap->P (argBest bt j) vb->s.heap.get? S=some {cls:=.type "list",dict:=none,data:=.seq #[vb,vb] c,slots:=#[]}->
  (∀v h' tk,P (argBest bt (n-1)) v->(∀b o,b∉wr->b≠S->s.heap.get? b=some o->h'.get? b=some o)->R (.ok (.ret v)) {s with heap:=h',toks:=tk})->
  codeAny (model prog w) A (.builtin "min.loop" ⟨[.ref I,.none,.ref S],kw⟩) R s:=by
 have away:S∉wr:=λh=>out (W.sub _ h);have nm:(toString "min"++toString ".loop":String)="min.loop":=δ;intro k;induction k with
 |zero=>intro j s vb c hk hj st hb g_ q;have en:j+1=n:=ω;refine cV jP ?_;rw[cq cE _];show wpAny _ A.in1 (seqItems? (.ref S)>>=_) _ _ s;refine aa (b7 g_ rfl ?_);show wpAny _ A.in1 (tryCatch (pyNext (.ref I)) _>>=_) _ _ s;refine aa (cg (W.done s _ _ (en▸st) λh' tk kp=>?_));show wpAny _ A.in1 (updateSeq S (λ_=>#[])>>=_) _ _ _;refine aa ?_;refine eF (kp S _ away g_) rfl (aa (dX (au ?_)));exact q vb _ tk (by rw[<-en];exact hb) λb o h1 h2 e=>(aV _ _ (eJ h2)).trans (kp b o h1 e)
 |succ k ih=>
  intro j s vb c hk hj st hb g_ q;have lt:j+1<n:=ω;refine cV jP ?_;rw[cq cE _];show wpAny _ A.in1 (seqItems? (.ref S)>>=_) _ _ s;refine aa (b7 g_ rfl ?_);show wpAny _ A.in1 (tryCatch (pyNext (.ref I)) _>>=_) _ _ s;refine aa (cg (W.item (j+1) s _ _ lt st λv h' tk hP oG kp=>?_));have at2:=kp S _ away g_;show wpAny _ A.in1 (tryCatch (holding [v,v] (richCompare .Lt v vb>>=_)) _>>=_) _ _ _;refine aa (cg (cf (aa (cmp (j+1) (argBest bt j) v vb _ _ _ hP hb ?_))));refine aa (cf (bB ?_));refine aa (dX (au ?_));cases better:bt (j+1) (argBest bt j) with
  |true=>simp only[jg];refine aa ?_;refine eF at2 rfl (aa (dX ?_));rw[nm];refine au ⟨cP cE _,ih (j+1) _ v _ ω lt (W.frame _ _ _ oG λb hf o e=>(aV _ _ (λh:S=b=>out (by rw[h];exact hf))).trans e) (by simp only[argBest,better,jg];exact hP) (cF _ at2 rfl) λv' zP nz mG zQ=>?_⟩;exact q v' zP nz mG λb o h1 h2 e=>zQ b o h1 h2 ((aV _ _ (eJ h2)).trans (kp b o h1 e))
  |false=>simp only[cQ,hV];refine aa (dX ?_);rw[nm];refine au ⟨cP cE _,ih (j+1) _ vb c ω lt oG (by simp only[argBest,better,cQ,hV];exact hb) at2 λv' zP nz mG zQ=>?_⟩;exact q v' zP nz mG λb o h1 h2 e=>zQ b o h1 h2 (kp b o h1 e)
def BQ (W:Walks prog w A.in1 I fp wr n P St) (bt:Nat->Nat->Bool) (cmp:CmpOf prog w A.in1 .Lt P bt) (S:aq) (out:S∉fp) (d:ai) (st:St 0 s.heap) (g_:s.heap.get? S=some {cls:=.type "list",dict:=none,data:=.seq #[] c,slots:=#[]}) (q:∀v h' tk,(n=0/\v=d\/0<n/\P (argBest bt (n-1)) v)->(∀b o,b∉wr->b≠S->s.heap.get? b=some o->h'.get? b=some o)->R (.ok (.ret v)) {s with heap:=h',toks:=tk}):
  codeAny (model prog w) A (.builtin "min.loop" ⟨[.ref I,.none,.ref S],[("default",d)]⟩) R s:=by
 have away:S∉wr:=λh=>out (W.sub _ h);have nm:(toString "min"++toString ".loop":String)="min.loop":=δ;refine cV jP ?_;rw[cq cE _];rcases Nat.eq_zero_or_pos n with z|pos
 .show wpAny _ A.in1 (seqItems? (.ref S)>>=_) _ _ s;refine aa (b7 g_ rfl ?_);show wpAny _ A.in1 (tryCatch (pyNext (.ref I)) _>>=_) _ _ s;refine aa (cg (W.done s _ _ (z▸st) λh' tk kp=>?_));refine(aa (m5 ?_):wpAny _ A.in1 (rule _>>=_) _ _ _);exact au (q d h' tk (.inl ⟨z,rfl⟩) λb o h1 _ e=>kp b o h1 e)
 .show wpAny _ A.in1 (seqItems? (.ref S)>>=_) _ _ s;refine aa (b7 g_ rfl ?_);show wpAny _ A.in1 (tryCatch (pyNext (.ref I)) _>>=_) _ _ s;refine aa (cg (W.item 0 s _ _ pos st λv h' tk hP oG kp=>?_));have at2:=kp S _ away g_;show wpAny _ A.in1 (updateSeq S (λ_=>#[v,v])>>=_) _ _ _;refine aa ?_;refine eF at2 rfl ?_;rw[nm];refine au ⟨cP cE _,EZ W bt cmp S out _ _ 0 _ v _ rfl pos (W.frame _ _ _ oG λb hf o e=>(aV _ _ (λh:S=b=>out (by rw[h];exact hf))).trans e) hP (cF _ at2 rfl) λv' zP nz mG zQ=>?_⟩;exact q v' zP nz (.inr ⟨pos,mG⟩) λb o h1 h2 e=>zQ b o h1 h2 ((aV _ _ (eJ h2)).trans (kp b o h1 e))
end
def uf {ns:List Int}(rv:cx (ns.map V.int) bV) (h:bV.toArray[i]?=some v):∃t,v=Value.int (ns.getD i 0) t:=by
 have h':bV[i]?=some v:=by simpa using h
 have hi:i<bV.length:=(aF.mp h').1;have hl:=rv.length;rw[ah] at hl;obtain⟨u,hu,ru⟩:=rv.get (i:=i) (x:=V.int (ns.getD i 0)) (by rw[aR,ag ω];simp[List.getD,ag (show i<ns.length by omega)]);rw[h'] at hu;cases hu;exact ru
def Dj (ns:List Int) (pos:0<ns.length):ns.getD (argBest (λi j=>decide (ns.getD i 0<ns.getD j 0)) (ns.length-1)) 0∈ns/\∀k∈ns,ns.getD (argBest (λi j=>decide (ns.getD i 0<ns.getD j 0)) (ns.length-1)) 0<=k:=by
 obtain⟨h1,h2⟩:=argBest_lt (λi=>ns.getD i 0) (ns.length-1);refine⟨?_,λk hk=>?_⟩
 .have:argBest (λi j=>decide (ns.getD i 0<ns.getD j 0)) (ns.length-1)<ns.length:=ω;rw[aw,ag this];exact dD this
 .obtain⟨j,hj⟩:=i9 hk;have lj:=(aF.mp hj).1;have:=h2 j ω;rw[show ns.getD j 0=k by rw[aw,hj];rfl] at this;exact this
def E1 (hc:X.calm=true):dR X (.builtin "min") (λxs H Q=>∃(p:aq) (ns:List Int),xs=[.ref p]/\gj X.K H p (ns.map V.int)/\0<ns.length/\∀m,m∈ns->(∀k∈ns,m<=k)->Q (.int m) H):=by
 intro ac s U H xs us Q I r h;obtain⟨p,ns,rfl,hq,pos,q⟩:=h;obtain⟨u,rfl,rx⟩:=mB r;cases(show u=Value.ref p from rx);obtain⟨bV,rv,pl,hz⟩:=I.list hq;have hl:=rv.length;rw[ah] at hl;have ie:p<s.heap.objs.size:=by obtain⟨o,e,_⟩:=pl.isList;exact aG e
 refine call_min_walk (dQ pl.isList ?_);refine⟨s.heap.objs.size,_,_,bV.toArray.size,_,_,_,rfl,jG (prog:=X.prog) (w:=X.w) (A:=X.A.in1) (I.ok.hd hc) s.heap.objs.size p (aW ie) bV.toArray,⟨⟨_,av _ rfl,rfl,rfl⟩,pl.isList.at λo e=>af _ e⟩,?_,by rw[aC];omega,CmpOf.ints_lt (λi=>ns.getD i 0) (λ_ _ h=>uf rv h),λv h' tk hP hk=>?_⟩
 .intro b hb;simp only[aU,bF,eE] at hb;have:(s.heap.push {cls:=.type "list_iterator",data:=.fields #[.ref p,.int 0 0]}).objs.size=s.heap.objs.size+1:=bP ..;rcases hb with rfl|rfl
  .exact Nat.lt_of_lt_of_eq (c_ _) this.symm
  .exact Nat.lt_of_lt_of_eq (b8 ie) this.symm
 .obtain⟨t,rfl⟩:=uf rv hP;have bo:=Dj ns pos;rw[aC,<-hl] at*;refine⟨.int _,H,I.kept (t':=tk) λb o e=>hk b o (λz=>absurd (aG e) (by rw[aK.mp z];exact cD _)) (af _ e),⟨t,rfl⟩,q _ bo.1 bo.2⟩
def BR (hc:X.calm=true) (I:Inv X ac U H s) (hq:gj X.K H p (ns.map V.int)) (q0:ns=[]->Q .e_ H) (q1:∀m,m∈ns->(∀k∈ns,m<=k)->Q (.int m) H):
  wpAny (model X.prog X.w) X.A (call (.builtin "min") [.ref p] [("default",.none)]) (EP X ac U Q) X.xe s:=by
 have nm:(toString "min"++toString ".loop":String)="min.loop":=δ;obtain⟨bV,rv,pl,hz⟩:=I.list hq;have hl:=rv.length;rw[ah] at hl;have ie:p<s.heap.objs.size:=by obtain⟨o,e,_⟩:=pl.isList;exact aG e
 refine Di F.kind_min Uq Ur (EY _ _) ?_;show wpAny _ X.A.in1 (Builtin.Builtins.bindParams "min" ["key","default"] 0 ⟨[],[("default",.none)]⟩>>=_) _ _ s;refine aa (tU (show Builtin.Builtins.bindParams "min" ["key","default"] 0 ⟨[],[("default",.none)]⟩=pure [none,some .none] from rfl) ?_);refine aa (au (aa (dQ pl.isList (aa (bS ?_)))));rw[nm];have sz:(s.heap.push {cls:=.type "list_iterator",data:=.fields #[.ref p,.int 0 0]}).objs.size=s.heap.objs.size+1:=bP ..;refine au ⟨cP cE _,BQ (jG (prog:=X.prog) (w:=X.w) (A:=X.A.in1) (I.ok.hd hc) s.heap.objs.size p (aW ie) bV.toArray) _ (CmpOf.ints_lt (λi=>ns.getD i 0) (λ_ _ h=>uf rv h)) _ ?_ .none ⟨⟨_,af _ (av _ rfl),rfl,rfl⟩,pl.isList.at λo e=>af _ (af _ e)⟩ (av _ rfl) λv h' tk hP hk=>?_⟩
 .intro hb;simp only[aU,bF,eE] at hb;rcases hb with z|z
  .exact rB _ (sz.symm.trans z)
  .exact absurd ie (by rw[<-z,sz];exact jQ.mpr (dg _))
 .have kp:∀b o,s.heap.get? b=some o->h'.get? b=some o:=λb o e=>by have lb:=aG e;exact hk b o (λz=>by rw[aK.mp z] at lb;exact cD _ lb) (λz=>by rw[z,sz] at lb;exact absurd lb (jQ.mpr (dg _))) (af _ (af _ e))
  rcases hP with⟨z,rfl⟩|⟨pos,hP⟩
  .rw[aC] at z;exact⟨.e_,H,I.kept (t':=tk) kp,rfl,q0 (fH.mp ω)⟩
  .obtain⟨t,rfl⟩:=uf rv hP;rw[aC,<-hl] at pos;have bo:=Dj ns pos;rw[aC,<-hl];exact⟨.int _,H,I.kept (t':=tk) kp,⟨t,rfl⟩,q1 _ bo.1 bo.2⟩
def V8 (K:Φ) (Q:VK) (vs:Aac) (H1:Hp):Prop:=∃(p:aq) (ns:List Int),vs=[.ref p]/\gj K H1 p (ns.map V.int)/\(ns=[]->Q .e_ H1)/\∀m,m∈ns->(∀k∈ns,m<=k)->Q (.int m) H1
def V9 (K:Φ) (te:TE):TE:=λU H Q=>te U H λx H1=>V8 K Q [x] H1
def Lv (hc:X.calm=true) (hg:Gl X "min") (hm:X.mg "min"=none) (he:PE X e te) (hs:starEach [e] X.env=[(false,eval e X.env)]:=by rfl):
  PE X (.Call (.Name "min" p) [e] [⟨some "default",.Constant .none j kp,G6⟩] pos) (V9 X.K te):=by
 intro ac s U H Q I h;have pa:PA X [e] (dF te gk):=ae he aj (by rw[hs];rfl);have pk:PK X [⟨some "default",.Constant .none j kp,G6⟩] (dF (tC .e_) gk):=K5 jK Qv;refine eX (kQ I hg hm boot_min ?_ δ δ);refine callWith_kw (dq (pa pos ac s U H (V8 X.K Q) I h) λus s1 ⟨vs,H1,I1,r1,a,ns,e1,sq,q0,q1⟩=>?_) (by rw[hs];rfl) (by rw[hs];rfl)
 .subst e1;obtain⟨u,rfl,ru⟩:=mB r1;cases(show u=Value.ref a from ru);refine dq (pk pos ac s1 U H1 (λvs H2=>vs=[.e_]/\H2=H1) I1 ⟨rfl,rfl⟩) λks s2 fh=>?_;obtain⟨zs,H2,I2,rz,e3,e4⟩:=fh;subst e3 e4;obtain⟨u,rfl,ru⟩:=mB rz;cases(show u=Value.none from ru);exact BR hc I2 sq q0 q1
def E3:dR X (.builtin "len") (λxs H Q=>∃a kvs,xs=[V.ref a]/\H a=some (.dK kvs)/\Q (.int kvs.length) H):=by intro ac s U H xs us Q I r h;obtain⟨a,kvs,rfl,ha,q⟩:=h;obtain⟨u,rfl,ru⟩:=mB r;cases ru;exact V0 I (.inl ha) λt s' I'=>⟨.int kvs.length,H,I',⟨t,rfl⟩,q⟩
def BS (hc:X.calm=true):dR X (.type "list") (λxs H Q=>∃a kvs,xs=[V.ref a]/\H a=some (.dK kvs)/\∀l,H l=none->Q (.ref l) (upd H l (.lst (kvs.map λkv=>kV kv.1)))):=by
 intro ac s U H xs us Q I r h;obtain⟨a,kvs,rfl,ha,q⟩:=h;obtain⟨u,rfl,ru⟩:=mB r;cases ru;obtain⟨z,nm,vs,rel,dd⟩:=wU I.dh ha;obtain⟨ep,UH⟩:=dd.dictAt;refine PySem.W.kdl_call (PySem.W.kdl_dict (knd:=fi X.prog X.w) (kvs:=vs) (ep:=ep) nm) (I.ok.hd hc) UH (by rw[<-rel.length];exact z) λh' tk acc c' hk hl hi=>?_;refine⟨.ref s.heap.objs.size,_,I.laid (o:=.lst (kvs.map λkv=>kV kv.1)) (a:=s.heap.objs.size) hk (ao _) ?_,rfl,q _ (I.dh.fresh (ao _))⟩;have e1:acc.toList.length=vs.length:=by simpa using hi.1
 refine⟨by simpa using z,acc.toList,c',zM (by rw[ah,e1];exact rel.length) λi x u h1 h2=>?_,by simpa using hl⟩;obtain⟨k,y,h3,h4⟩:=hi.2 i u (by simpa using h2);rw[aR] at h1;obtain⟨kv,h5,rfl⟩:=cw.mp h1;have rl:Paired (λ(p:Key×V) (q:Key×ai)=>p.1=q.1/\RelV p.2 q.2) kvs vs:=rel;obtain⟨b,h6,h7,_⟩:=Paired.get' rl h5;rw[h3] at h6;cases h6;rw[h7];rcases fB h4 with⟨b',e2,e3⟩|⟨x',t,e2,e3⟩
 .rw[show k=Sum.inl b' from e2,e3];rfl
 .rw[show k=Sum.inr x' from e2,e3];exact⟨t,rfl⟩
def V_ (K:Φ):R2:=λx y H Q=>∃l b xs zs,x=.ref l/\y=.ref b/\gj K H l xs/\gj K H b zs/\xs.length+zs.length<=sizeLine/\∀p,H p=none->Q (.ref p) (upd H p (.lst (xs++zs)))
def Lx:gT X (binaryOp .Add) (V_ X.K):=by intro ac s U H x y v u Q I rx ry h;obtain⟨l,b,xs,zs,rfl,rfl,hH,hB,hz,q⟩:=h;cases rx;cases ry;obtain⟨bV,r,pl,_⟩:=I.list hH;obtain⟨jV,r2,OG,_⟩:=I.list hB;have l1:=r.length;have l2:=r2.length;obtain⟨⟨c1,d1,a1,s1⟩,e1,h1,n1,k1⟩:=id pl.isList;obtain⟨⟨c2,d2,a2,s2⟩,e2,h2,n2,k2⟩:=id OG.isList;cases(show c1=Value.type "list" from h1);cases(show a1=Data.seq bV.toArray n1 from k1);cases(show c2=Value.type "list" from h2);cases(show a2=Data.seq jV.toArray n2 from k2);refine Kx ⟨_,e1,rfl⟩ ⟨_,e2,rfl⟩ noFill_list_add seq_list_add PySem.F.slot_list_add PySem.F.entry_list_add (PySem.F.args_list_add_2 _ _) (list_addW l b bV.toArray jV.toArray n1 n2 d1 d2 s1 s2 (by rw[aC,aC];omega)) ⟨e1,e2,?_⟩;rw[show bV.toArray++jV.toArray=(bV++jV).toArray by simp];exact⟨.ref _,_,I.VN (t':=s.toks) (r.append r2) (by rw[aA];omega),rfl,q _ I.fresh⟩
section
variable {R:Result->ar->Prop}{I:aq}{fp wr:List aq}{G:Array GenState->Array GenState->Prop}{n:Nat}{P:Nat->ai->Prop}{St:Nat->ar->Prop}
end
def snoc_ind {α:Type}{p:List α->Prop}(h0:p []) (h1:∀l a,p l->p (l++ [a])):∀l,p l:=λl=>by
 have key:∀r:List α,p r.reverse:=λr=>by
  induction r with
  |nil=>exact h0
  |cons a r ih=>rw[kC];exact h1 _ _ ih
 have:=key l.reverse;rwa[List.reverse_reverse] at this
section
variable {a b:Expr}{ta tb:TE}{pos:Pos}{rest:List Expr}
def Wa (K:Φ) (ta tb:TE):TE:=λU H Q=>ta U H λx H1=>∃k,Qt K x H1 k/\if k=true then Q x H1 else tb U H1 Q
def Q9 (ha:PE X a ta) (hb:PE X (.BoolOp .Or (b::rest) pos) tb):PE X (.BoolOp .Or (a::b::rest) pos) (Wa X.K ta tb):=by
 intro ac s U H Q I h;refine BoolOp_or (dq (ha ac s U H _ I h) λv s1 fh=>?_);obtain⟨x,H1,I1,r1,k,tr,q1⟩:=fh;refine dq (GX ac s1 U H1 x v (λb H'=>b=k/\H'=H1) I1 r1 ⟨k,tr,rfl,rfl⟩) λc s2 fh=>?_;obtain⟨H2,I2,e1,e2⟩:=fh;subst e1 e2;cases c with
 |false=>exact hb ac s2 U H2 Q I2 q1
 |true=>exact⟨x,H2,I2,r1,q1⟩
end
def Lz {e st:Expr}{te ts:TE}{p2 pos:Pos}(he:PE X e te) (GI:PE X st ts) (EM:∀v key:ai,∃ops,subscripted (.Slice none none (some st) p2) false v key=operate ops (getItem v key)):
  PE X (.Subscript e (.Slice none none (some st) p2) pos) (λU H Q=>te U H λx H1=>ts U H1 λy H2=>∃a xs,x=.ref a/\y=.int (-1)/\gj X.K H2 a xs/\∀p,H2 p=none->Q (.ref p) (upd H2 p (.lst xs.reverse))):=by
 intro ac s U H Q I h;refine Subscript_ (dq (he ac s U H _ I h) λv s1 fh=>?_);obtain⟨x,H1,I1,r1,q1⟩:=fh;refine wpAny_Slice ?_;rw[evalPart_none,evalPart_some];refine au (au (dq (GI ac s1 U H1 _ I1 q1) λvk s2 fh=>?_));obtain⟨y,H2,I2,r2,a,xs,e1,e2,hx,q⟩:=fh;subst e1 e2;obtain⟨tk,rfl⟩:=(show∃t,vk=Value.int (-1) t from r2);cases(show v=Value.ref a from r1);have I3:Inv X ac U H2 {s2 with heap:=s2.heap.push {cls:=.type "slice",data:=.fields #[.none,.none,.int (-1) tk]}}:=I2.kept (t':=s2.toks) λb ob q=>af _ q;obtain⟨bV,r,ht,hz⟩:=I3.list hx;have hlen:=r.length;refine(?_:wpAny (model X.prog X.w) X.A (subscriptTail e (.Slice none none (some st) p2) (.ref a) (.ref s2.heap.objs.size)) (EP X ac U Q) X.xe {s2 with heap:=s2.heap.push {cls:=.type "slice",data:=.fields #[.none,.none,.int (-1) tk]}});obtain⟨ops,aaN⟩:=EM (.ref a) (.ref s2.heap.objs.size);refine tail_any (ops:=ops) ht.isList.typeIs slot_list_getitem.lookup (wpAny_getItem_list_slice (st:=some (-1)) ht.isList (Heap.IsSliceOf.new ..) .none .none (.int _ _) ς ?_ (by rw[aC];omega)) aaN;rw[PySem.W.krv_pick];refine⟨.ref _,_,I3.laid (t':=s2.toks) (o:=.lst xs.reverse) (λb ob q=>af _ q) (ao _) ?_,rfl,q _ (I3.dh.fresh (ao _))⟩;exact⟨by rw[xB];exact hz,_,0,r.zG,av _ rfl⟩
def nB (A:bL) (s:ar) (y x:ai) (b:Bool):Prop:=∀(prog:aQ) (w:bg) (E:Aaf) (Q:Aaf),Q (.bool b) s->wpAny (model prog w) A (richCompare .Lt y x) Q E s
inductive Lex (A:bL) (s:ar):Aad->Aad->Bool->Prop
 |nn:Lex A s [] [] false
 |nc {y:ai} {ys:Aad}:Lex A s [] (y::ys) true
 |cn {x:ai} {xs:Aad}:Lex A s (x::xs) [] false
 |eq {x y:ai} {xs ys:Aad} {r:Bool}:SeqAt.EqAt A s x y true->Lex A s xs ys r->Lex A s (x::xs) (y::ys) r
 |lt {x y:ai} {xs ys:Aad} {r:Bool}:SeqAt.EqAt A s x y false->nB A s x y r->Lex A s (x::xs) (y::ys) r
section
open PySem.SeqAt
open AutoSeq1 (wpAny_loadPart')
open PySem.MeetsSeq PySem.MeetsSeq2 PySem.MeetsSeq3
def Dk {A}{s}(h:Lex A s vs ws r) (hz:vs.zip ws=[]):r=decide (vs.length<ws.length):=by
 cases h with
 |nn=>rfl
 |nc=>exact(aZ ς).symm
 |cn=>exact(bw ς).symm
 |eq _ _=>rw[jR] at hz;cases hz
 |lt _ _=>rw[jR] at hz;cases hz
def x5 (l b:aq) (items dZ:Array ai) (n n2:Nat) (dd A0:Option aq) (sl qz:Array (Option ai)) (r:Bool):
  Meets (Builtin.«tuple.__lt__» ⟨[.ref l,.ref b],[]⟩) (λA R s=>s.heap.get? l=some {cls:=.type "tuple",dict:=dd,data:=.seq items n,slots:=sl}/\s.heap.get? b=some {cls:=.type "tuple",dict:=A0,data:=.seq dZ n2,slots:=qz}/\Lex A.in1 s items.toList dZ.toList r/\R (.ok (.ret (.bool r))) s):=
 λprog w A R s h=>by
  obtain⟨hp,g,d,tk,os⟩:=s;obtain⟨hl,hb,hx,h⟩:=h;have f2:=AutoSeq1.sub_tuple_tuple
  wp_walk using b9 hl,b9 hb,wpAny_forIn_list _ (λrest b s'=>b.1=none/\s'=⟨hp,g,d,tk,os⟩/\∃(vs ws:Aad),rest=vs.zip ws/\vs.length+dZ.size=ws.length+items.size/\Lex A.in1 ⟨hp,g,d,tk,os⟩ vs ws r) _
  case turn=>
   rintro⟨y,x⟩ rest b s' ⟨hb',rfl,vs,ws,hz,hlen,lx⟩;cases lx with
   |nn=>rw[Bb] at hz;cases hz
   |nc=>rw[Bb] at hz;cases hz
   |cn=>rw[List.zip_nil_right] at hz;cases hz
   |eq he lx'=>
    rw[jR] at hz;injection hz with hyx OH;injection hyx with hy hx;subst hy hx;simp only[bE] at hlen;refine aa (he prog w _ _ ?_)
    wp_walk
    exact⟨rfl,rfl,_,_,OH,ω,lx'⟩
   |lt he ie=>
    rw[jR] at hz;injection hz with hyx OH;injection hyx with hy hx;subst hy hx;refine aa (he prog w _ _ ?_);have hri:=ie prog w
    wp_walk using hri
    exact h
  case fin=>
   rintro⟨b1,b2⟩ s' ⟨hb',rfl,vs,ws,hz,hlen,lx⟩;simp only at hb';subst hb';have hv:=Dk lx hz.symm;rw[hv] at h
   wp_walk
   have e:decide (vs.length<ws.length)=decide (items.size<dZ.size):=by rw[rC];omega
   rw[e] at h;simpa[Builtin.Tuple.tupleCompareSizes] using h
  case h=>exact⟨rfl,rfl,items.toList,dZ.toList,rfl,by simp;omega,hx⟩
def LA (l b:aq) (items dZ:Array ai) (n n2:Nat) (dd A0:Option aq) (sl qz:Array (Option ai)) (r:Bool) (k:Nat):
  ∀i:Nat,items.size-i=k->Meets (Builtin.«list.__eq__.loop» ⟨[.ref l,.ref b,rawInt i,rawInt 0],[]⟩) (λA R s=>s.heap.get? l=some {cls:=.type "list",dict:=dd,data:=.seq items n,slots:=sl}/\s.heap.get? b=some {cls:=.type "list",dict:=A0,data:=.seq dZ n2,slots:=qz}/\i<=items.size/\i<=dZ.size/\ Lex A.in1 s (items.toList.drop i) (dZ.toList.drop i) r/\R (.ok (.ret (.bool r))) s):=by
 have stop:∀(i:Nat),(items[((i:Nat):Int).toNat]?=none\/dZ[((i:Nat):Int).toNat]?=none)->Meets (Builtin.«list.__eq__.loop» ⟨[.ref l,.ref b,rawInt i,rawInt 0],[]⟩) (λA R s=>s.heap.get? l=some {cls:=.type "list",dict:=dd,data:=.seq items n,slots:=sl}/\s.heap.get? b=some {cls:=.type "list",dict:=A0,data:=.seq dZ n2,slots:=qz}/\i<=items.size/\i<=dZ.size/\ Lex A.in1 s (items.toList.drop i) (dZ.toList.drop i) r/\R (.ok (.ret (.bool r))) s):=λi hn prog w A R s h=>by
  obtain⟨hp,g,d,tk,os⟩:=s;obtain⟨hl,hb,z1,z2,hx,h⟩:=h;have hz:(items.toList.drop i).zip (dZ.toList.drop i)=[]:=by
   rcases hn with hn|hn
   .have:items.toList.drop i=[]:=by simp at hn;simp;omega
    rw[this,Bb]
   .have:dZ.toList.drop i=[]:=by simp at hn;simp;omega
    rw[this,List.zip_nil_right]
  have hv:=Dk hx hz;rw[cK,cK,eG,eG] at hv;have e:r=decide (items.size<dZ.size):=by rw[hv,rC];omega
  wp_walk using b9 hl,b9 hb
  rw[e] at h;cases h1:items[((i:Nat):Int).toNat]? with
  |none=>
   cases h2:dZ[((i:Nat):Int).toNat]? with
   |none=>
    wp_walk using b9 hl,b9 hb
    exact h
   |some y=>
    wp_walk using b9 hl,b9 hb
    exact h
  |some x=>
   cases h2:dZ[((i:Nat):Int).toNat]? with
   |none=>
    wp_walk using b9 hl,b9 hb
    exact h
   |some y=>rw[h1,h2] at hn;rcases hn with z|z<;>cases z
 induction k with
 |zero=>intro i hk;exact stop i (.inl (by simp;omega))
 |succ k ih=>
  intro i hk;have ie:i<items.size:=ω;by_cases mP:i<dZ.size
  .intro prog w A R s h;obtain⟨hp,g,d,tk,os⟩:=s;obtain⟨hl,hb,z1,z2,hx,h⟩:=h;have hi1:items[((i:Nat):Int).toNat]?=some items[i]:=by simp[ie]
   have Q_:dZ[((i:Nat):Int).toNat]?=some dZ[i]:=by simp[mP]
   have d1:items.toList.drop i=items[i]::items.toList.drop (i+1):=by rw[fu (by simpa using ie)];simp
   have d2:dZ.toList.drop i=dZ[i]::dZ.toList.drop (i+1):=by rw[fu (by simpa using mP)];simp
   rw[d1,d2] at hx;have hc:((i:Int)+1)=((i+1:Nat):Int):=by push_cast;rfl
   wp_walk using b9 hl,b9 hb
   rw[hi1,Q_];cases hx with
   |eq he lx=>
    refine aa (he prog w _ _ ?_)
    wp_walk
    rw[hc];exact⟨cP plain_eq_loop _,cV entry_eq_loop (by rw[cq plain_eq_loop _];exact ih (i+1) ω prog w A R _ ⟨hl,hb,ie,mP,lx,h⟩)⟩
   |lt he hr=>
    refine aa (he prog w _ _ ?_)
    wp_walk using b9 hl,b9 hb
    rw[hi1,Q_];have hri:=hr prog w
    wp_walk using hri
    exact h
  .exact stop i (.inr (by simp;omega))
def zR (l b:aq) (items dZ:Array ai) (n n2:Nat) (dd A0:Option aq) (sl qz:Array (Option ai)) (r:Bool):
  Meets (Builtin.«list.__lt__» ⟨[.ref l,.ref b],[]⟩) (λA R s=>s.heap.get? l=some {cls:=.type "list",dict:=dd,data:=.seq items n,slots:=sl}/\s.heap.get? b=some {cls:=.type "list",dict:=A0,data:=.seq dZ n2,slots:=qz}/\Lex A.in1 s items.toList dZ.toList r/\R (.ok (.ret (.bool r))) s):=by
 intro prog w A R s h;obtain⟨hp,g,d,tk,os⟩:=s;obtain⟨hl,hb,hx,h⟩:=h;have f3:=AutoSeq1.sub_list_list
 wp_walk using b9 hl,b9 hb
 exact⟨cP plain_eq_loop _,cV entry_eq_loop (by rw[cq plain_eq_loop _];exact LA l b items dZ n n2 dd A0 sl qz r _ 0 rfl prog w A R _ ⟨hl,hb,bH _,bH _,hx,h⟩)⟩
end
def LB (hl:s.heap.IsList l items) (hb:s.heap.IsList b dZ) (hx:Lex A.in1 s items.toList dZ.toList r) (hu:A.units<cLine):nB A s (.ref l) (.ref b) r:=λprog w E Q q=>by obtain⟨⟨cls,dd,data,sl⟩,ho,hc,n,hd⟩:=id hl;obtain⟨⟨Qy,A0,data2,qz⟩,By,G8,n2,hd2⟩:=id hb;simp only at hc hd G8 hd2;subst hc hd G8 hd2;exact richCompare_meets_room (op:=.Lt) ⟨_,ho,rfl⟩ ⟨_,By,rfl⟩ PySem.F.slot_list_lt PySem.F.entry_list_lt (PySem.F.args_list_lt_2 _ _) (zR l b items dZ n n2 dd A0 sl qz r) ⟨ho,By,hx,show Value.bool r≠Value.notImplemented/\Q (.bool r) s from⟨(λx=>nomatch x),q⟩⟩ hu
def rR (hl:IsTup s.heap l items) (hb:IsTup s.heap b dZ) (hx:Lex A.in1 s items.toList dZ.toList r) (hu:A.units<cLine):nB A s (.ref l) (.ref b) r:=λprog w E Q q=>by obtain⟨⟨cls,dd,data,sl⟩,ho,hc,n,hd⟩:=id hl;obtain⟨⟨Qy,A0,data2,qz⟩,By,G8,n2,hd2⟩:=id hb;simp only at hc hd G8 hd2;subst hc hd G8 hd2;exact richCompare_meets_room (op:=.Lt) ⟨_,ho,rfl⟩ ⟨_,By,rfl⟩ PySem.F.slot_tuple_lt PySem.F.entry_tuple_lt (PySem.F.args_tuple_lt_2 _ _) (x5 l b items dZ n n2 dd A0 sl qz r) ⟨ho,By,hx,show Value.bool r≠Value.notImplemented/\Q (.bool r) s from⟨(λx=>nomatch x),q⟩⟩ hu
def nB.int (a:Int) (t:Tok) (c:Int) (u:Tok):nB A s (.int a t) (.int c u) (decide (a<c)):=λprog w E Q h=>(lt_int h:wpAny (model prog w) A (compareOp .Lt (.int a t) (.int c u)) Q E s)
def nB.str (a:Str) (t:Tok) (c:Str) (u:Tok):nB A s (.str a t) (.str c u) (decide (a.cps.toList<c.cps.toList)):=λprog w E Q h=>(lt_str h:wpAny (model prog w) A (compareOp .Lt (.str a t) (.str c u)) Q E s)
def dH (a b:Str):Bool:=decide (a.cps.toList<b.cps.toList)
def mQ:Aab->Aab->Bool
 | [],[]=>false
 | [],_::_=>true
 |_::_,[]=>false
 |x::xs,y::ys=>if x=y then mQ xs ys else dH x y
def nE:∀{vs ws:Aad}{ss zs:Aab},StrsAre vs ss->StrsAre ws zs->Lex A s vs ws (mQ ss zs)
 |_,_,_,_,.nil,.nil=>.nn
 |_,_,_,_,.nil,.cons _ _ _=>.nc
 |_,_,_,_,.cons _ _ _,.nil=>.cn
 |_,_,_,_,.cons a t h,.cons c u h2=>by
  show Lex A s _ _ (if a=c then _ else _);have he:=rm (A:=A) (s:=s) a t c u;by_cases e:a=c
  .rw[aJ e];rw[show(a==c)=true by simpa using e] at he;exact .eq he (nE h h2)
  .rw[aI e];rw[show(a==c)=false by simpa using e] at he;exact .lt he (nB.str a t c u)
def LC (prog:aQ) (w:bg) (A:bL) (P:Nat->ai->Prop) (St:Nat->Heap->Prop) (bt:Nat->Nat->Bool):Prop:=∀i j vi vj k (s:ar) (Q:Aaf) (E:Aaf),St k s.heap->P i vi->P j vj->Q (.bool (bt i j)) s->wpAny (model prog w) A (richCompare .Lt vi vj) Q E s
section
variable {R:Result->ar->Prop}{I:aq}{fp wr:List aq}{n:Nat}{P:Nat->ai->Prop}{St:Nat->Heap->Prop}
def E4 (W:Walks prog w A.in1 I fp wr n P St) (bt:Nat->Nat->Bool) (cmp:LC prog w A.in1 P St bt) (S:aq) (out:S∉fp) (kw:List (Str×ai)):
  ∀(k j:Nat) (s:ar) (vb:ai) (c:Nat),n-(j+1)=k->j+1<=n->St (j+1) s.heap->P (argBest bt j) vb->s.heap.get? S=some {cls:=.type "list",dict:=none,data:=.seq #[vb,vb] c,slots:=#[]}->
  (∀v h' tk,P (argBest bt (n-1)) v->(∀b o,b∉wr->b≠S->s.heap.get? b=some o->h'.get? b=some o)->R (.ok (.ret v)) {s with heap:=h',toks:=tk})->
  codeAny (model prog w) A (.builtin "min.loop" ⟨[.ref I,.none,.ref S],kw⟩) R s:=by
 have away:S∉wr:=λh=>out (W.sub _ h);have nm:(toString "min"++toString ".loop":String)="min.loop":=δ;intro k;induction k with
 |zero=>intro j s vb c hk hj st hb g_ q;have en:j+1=n:=ω;refine cV jP ?_;rw[cq cE _];show wpAny _ A.in1 (seqItems? (.ref S)>>=_) _ _ s;refine aa (b7 g_ rfl ?_);show wpAny _ A.in1 (tryCatch (pyNext (.ref I)) _>>=_) _ _ s;refine aa (cg (W.done s _ _ (en▸st) λh' tk kp=>?_));show wpAny _ A.in1 (updateSeq S (λ_=>#[])>>=_) _ _ _;refine aa ?_;refine eF (kp S _ away g_) rfl (aa (dX (au ?_)));exact q vb _ tk (by rw[<-en];exact hb) λb o h1 h2 e=>(aV _ _ (eJ h2)).trans (kp b o h1 e)
 |succ k ih=>
  intro j s vb c hk hj st hb g_ q;have lt:j+1<n:=ω;refine cV jP ?_;rw[cq cE _];show wpAny _ A.in1 (seqItems? (.ref S)>>=_) _ _ s;refine aa (b7 g_ rfl ?_);show wpAny _ A.in1 (tryCatch (pyNext (.ref I)) _>>=_) _ _ s;refine aa (cg (W.item (j+1) s _ _ lt st λv h' tk hP oG kp=>?_));have at2:=kp S _ away g_;show wpAny _ A.in1 (tryCatch (holding [v,v] (richCompare .Lt v vb>>=_)) _>>=_) _ _ _;refine aa (cg (cf (aa (cmp (j+1) (argBest bt j) v vb _ _ _ _ oG hP hb ?_))));refine aa (cf (bB ?_));refine aa (dX (au ?_));cases better:bt (j+1) (argBest bt j) with
  |true=>simp only[jg];refine aa ?_;refine eF at2 rfl (aa (dX ?_));rw[nm];refine au ⟨cP cE _,ih (j+1) _ v _ ω lt (W.frame _ _ _ oG λb hf o e=>(aV _ _ (λh:S=b=>out (by rw[h];exact hf))).trans e) (by simp only[argBest,better,jg];exact hP) (cF _ at2 rfl) λv' zP nz mG zQ=>?_⟩;exact q v' zP nz mG λb o h1 h2 e=>zQ b o h1 h2 ((aV _ _ (eJ h2)).trans (kp b o h1 e))
  |false=>simp only[cQ,hV];refine aa (dX ?_);rw[nm];refine au ⟨cP cE _,ih (j+1) _ vb c ω lt oG (by simp only[argBest,better,cQ,hV];exact hb) at2 λv' zP nz mG zQ=>?_⟩;exact q v' zP nz mG λb o h1 h2 e=>zQ b o h1 h2 (kp b o h1 e)
def uK (W:Walks prog w A.in1 I fp wr n P St) (bt:Nat->Nat->Bool) (cmp:LC prog w A.in1 P St bt) (S:aq) (out:S∉fp) (pos:0<n) (st:St 0 s.heap) (g_:s.heap.get? S=some {cls:=.type "list",dict:=none,data:=.seq #[] c,slots:=#[]}) (q:∀v h' tk,P (argBest bt (n-1)) v->(∀b o,b∉wr->b≠S->s.heap.get? b=some o->h'.get? b=some o)->R (.ok (.ret v)) {s with heap:=h',toks:=tk}):
  codeAny (model prog w) A (.builtin "min.loop" ⟨[.ref I,.none,.ref S],[]⟩) R s:=by
 have away:S∉wr:=λh=>out (W.sub _ h);have nm:(toString "min"++toString ".loop":String)="min.loop":=δ;refine cV jP ?_;rw[cq cE _];show wpAny _ A.in1 (seqItems? (.ref S)>>=_) _ _ s;refine aa (b7 g_ rfl ?_);show wpAny _ A.in1 (tryCatch (pyNext (.ref I)) _>>=_) _ _ s;refine aa (cg (W.item 0 s _ _ pos st λv h' tk hP oG kp=>?_));have at2:=kp S _ away g_;show wpAny _ A.in1 (updateSeq S (λ_=>#[v,v])>>=_) _ _ _;refine aa ?_;refine eF at2 rfl ?_;rw[nm];refine au ⟨cP cE _,E4 W bt cmp S out _ _ 0 _ v _ rfl pos (W.frame _ _ _ oG λb hf o e=>(aV _ _ (λh:S=b=>out (by rw[h];exact hf))).trans e) hP (cF _ at2 rfl) λv' zP nz mG zQ=>?_⟩;exact q v' zP nz mG λb o h1 h2 e=>zQ b o h1 h2 ((aV _ _ (eJ h2)).trans (kp b o h1 e))
end
def wV (h:wpAny (model prog w) A.in1 (pyIter x) (λit s2=>∃I fp wr n P St bt,it=.ref I/\Walks prog w A.in1 I fp wr n P St/\St 0 s2.heap/\(∀b∈fp,b<s2.heap.objs.size)/\0<n/\LC prog w A.in1 P St bt/\ ∀v h' tk,P (argBest bt (n-1)) v->(∀b o,b∉wr->s2.heap.get? b=some o->h'.get? b=some o)->Q v {s2 with heap:=h',toks:=tk}) E s):
  wpAny (model prog w) A (call (.builtin "min") [x]) Q E s:=by
 have nm:(toString "min"++toString ".loop":String)="min.loop":=δ;refine Gv F.kind_min Uq Ur (F.args_min1 _) ?_;show wpAny _ A.in1 (Builtin.Builtins.bindParams "min" ["key","default"] 0 ⟨[],[]⟩>>=_) _ _ s;refine aa (tU (show Builtin.Builtins.bindParams "min" ["key","default"] 0 ⟨[],[]⟩=pure [none,none] from rfl) ?_);refine aa (au ?_);refine aa (aN h (λit s2 h2=>?_) λ_ _ e=>e);obtain⟨I,fp,wr,n,P,St,bt,rfl,W,st,below,pos,cmp,q⟩:=h2;refine aa (bS ?_);rw[nm];have out:s2.heap.objs.size∉fp:=λhm=>cD _ (below _ hm);refine au ⟨cP cE _,uK W bt cmp s2.heap.objs.size out pos (W.frame _ _ _ st λb _ o e=>af _ e) (av _ rfl) λv h' tk hP hk=>?_⟩;exact q v h' tk hP λb o Wb e=>hk b o Wb (aW (aG e)) (af _ e)
def Walks.Wc {prog:aQ}{w:bg}{A:bL}{I:aq}{fp wr:List aq}{n:Nat}{P:Nat->ai->Prop}{St:Nat->Heap->Prop}(W:Walks prog w A I fp wr n P St) (F:Heap->Prop) (gp:List aq) (hF:∀h h',F h->(∀b∈gp,∀o,h.get? b=some o->h'.get? b=some o)->F h') (away:∀b∈gp,b∉wr):Walks prog w A I (fp++gp) wr n P (λi h=>St i h/\F h) where
 sub:=λb hb=>bh _ (W.sub b hb)
 frame:=λi h h' st k=>⟨W.frame i h h' st.1 λb hb=>k b (bh _ hb),hF h h' st.2 λb hb=>k b (aD _ hb)⟩
 item:=λi s Q E hi st q=>W.item i s Q E hi st.1 λv h' tk hP oG k=>q v h' tk hP ⟨oG,hF _ _ st.2 λb hb o e=>k b o (away b hb) e⟩ k
 done:=λs Q E st q=>W.done s Q E st.1 q
 self:=λi s Q E st q=>W.self i s Q E st.1 q
def oh (a:Str):dH a a=false:=bw (List.lt_irrefl _)
def lJ (h1:dH a b=true) (h2:dH b c=true):dH a c=true:=aZ (List.lt_trans (fe h1) (fe h2))
def qK (h:a≠b):dH a b=true\/dH b a=true:=by
 by_cases h1:a.cps.toList<b.cps.toList
 .exact .inl (aZ h1)
 .by_cases h2:b.cps.toList<a.cps.toList
  .exact .inr (aZ h2)
  .exfalso;apply h;have e:a.cps.toList=b.cps.toList:=List.le_antisymm (List.not_lt.mp h2) (List.not_lt.mp h1);obtain⟨x⟩:=a;obtain⟨y⟩:=b;have:x=y:=Array.toList_inj.mp e;rw[this]
def jZ (x y:Str) (xs ys:Aab):mQ (x::xs) (y::ys)=if x=y then mQ xs ys else dH x y:=rfl
def nF:∀a:Aab,mQ a a=false
 | []=>rfl
 |x::a=>by rw[jZ,aJ rfl];exact nF a
def uL:∀{a b:Aab},a≠b->mQ a b=true\/mQ b a=true
 | [],[],h=>absurd rfl h
 | [],_::_,_=>.inl rfl
 |_::_,[],_=>.inr rfl
 |x::a,y::b,h=>by
  rw[jZ,jZ];by_cases e:x=y
  .subst e;rw[aJ rfl,aJ rfl];exact uL λz=>h (by rw[z])
  .rw[aI e,aI (λz=>e z.symm)];exact qK e
def uM:∀{a b c:Aab},mQ a b=true->mQ b c=true->mQ a c=true
 | [],[],c,h,_=>by cases h
 | [],_::_,[],_,h=>by cases h
 | [],_::_,_::_,_,_=>rfl
 |_::_,[],_,h,_=>by cases h
 |_::_,_::_,[],_,h=>by cases h
 |x::a,y::b,z::c,h1,h2=>by
  rw[jZ] at h1 h2⊢;by_cases e1:x=y
  .subst e1;rw[aJ rfl] at h1;by_cases e2:x=z
   .subst e2;rw[aJ rfl] at h2⊢;exact uM h1 h2
   .rw[aI e2] at h2⊢;exact h2
  .rw[aI e1] at h1;by_cases e2:y=z
   .subst e2;rw[aI e1];exact h1
   .rw[aI e2] at h2;have h3:=lJ h1 h2;have e3:¬x=z:=λq=>by subst q;rw[oh] at h3;cases h3
    rw[aI e3];exact h3
def cT (a b:Int×Aab):Bool:=if a.1=b.1 then mQ a.2 b.2 else decide (a.1<b.1)
def mo (a:Int×Aab):cT a a=false:=by unfold cT;rw[aJ rfl];exact nF _
def iW (h1:cT a b=true) (h2:cT b c=true):cT a c=true:=by
 unfold cT at*;by_cases e1:a.1=b.1
 .rw[aJ e1] at h1;by_cases e2:b.1=c.1
  .rw[aJ e2] at h2;rw[aJ (e1.trans e2)];exact uM h1 h2
  .rw[aI e2] at h2;rw[aI (by rw[e1];exact e2),e1];exact h2
 .rw[aI e1] at h1;have l1:a.1<b.1:=fe h1;by_cases e2:b.1=c.1
  .rw[aI (by rw[<-e2];exact e1),<-e2];exact h1
  .rw[aI e2] at h2;have l2:b.1<c.1:=fe h2;rw[aI ω];exact aZ ω
def qL {κ:Type}(lt:κ->κ->Bool) (LD:∀a,lt a a=false) (trans:∀a b c,lt a b=true->lt b c=true->lt a c=true) (key:Nat->κ):∀k,argBest (λi j=>lt (key i) (key j)) k<=k/\∀j,j<=k->lt (key j) (key (argBest (λi j=>lt (key i) (key j)) k))=false
 |0=>⟨ao _,λj hj=>by have:j=0:=ω;subst this;exact LD _⟩
 |k+1=>by
  obtain⟨h1,h2⟩:=qL lt LD trans key k;simp only[argBest];by_cases hb:lt (key (k+1)) (key (argBest (λi j=>lt (key i) (key j)) k))=true
  .rw[aJ hb];refine⟨ao _,λj hj=>?_⟩;by_cases e:j=k+1
   .subst e;exact LD _
   .have:=h2 j ω;cases hc:lt (key j) (key (k+1)) with
    |false=>rfl
    |true=>rw[trans _ _ _ hc hb] at this;cases this
  .rw[aI hb];refine⟨ω,λj hj=>?_⟩;by_cases e:j=k+1
   .subst e;exact Bool.eq_false_iff.mpr hb
   .exact h2 j ω
def uN:∀a b:Aab,PyData.eqvAll (a.map .str) (b.map .str)=decide (a=b)
 | [],[]=>by simp[PyData.eqvAll]
 | [],_::_=>by simp[PyData.eqvAll]
 |_::_,[]=>by simp[PyData.eqvAll]
 |x::a,y::b=>by
  rw[bG,bG,PyData.eqvAll,uN a b];by_cases e:x=y
  .subst e;simp[PyData.eqv]
  .have:(x==y)=false:=by simpa using e
   simp[PyData.eqv,e]
def zS (a b:Aab):PyData.eqv (.list (a.map .str)) (.list (b.map .str))=decide (a=b):=by rw[<-uN];rw[PyData.eqv]
structure A1 where
 t:aq
 l:aq
 n:Int
 o:Aab
def A1.key (x:A1):Int×Aab:=(x.n,x.o)
def mR (H:Hp) (x:A1):Prop:=H x.t=some (.tup [.int x.n,.ref x.l])/\H x.l=some (.lst (x.o.map V.str))/\(∀z∈x.o,PyData.strOk z=true)
def LF (h:Heap) (x:A1):Prop:=∃(tok:Tok) (bV:Aad),IsTup h x.t #[.int x.n tok,.ref x.l]/\h.IsList x.l bV.toArray/\StrsAre bV x.o
def LF.keep (p:LF h x) (k1:∀o,h.get? x.t=some o->h'.get? x.t=some o) (k2:∀o,h.get? x.l=some o->h'.get? x.l=some o):LF h' x:=by obtain⟨tok,bV,⟨o,e,r⟩,⟨o2,e2,r2⟩,hs⟩:=p;exact⟨tok,bV,⟨o,k1 o e,r⟩,⟨o2,k2 o2 e2,r2⟩,hs⟩
def ij:∀{vs:Aad}{ss:Aab},StrsAre vs ss->∃as,ReadsAll h vs (ss.map .str) as
 |_,_,.nil=>⟨_,.nil⟩
 |_,_,.cons y t hs=>by obtain⟨as,h2⟩:=ij (h:=h) hs;exact⟨_,.cons (.str y t) h2⟩
def LF.lt {A}{s}(px:LF s.heap x) (py:LF s.heap y) (ox:∀z∈x.o,PyData.strOk z=true) (oy:∀z∈y.o,PyData.strOk z=true) (hu:A.units+20<cLine):nB A s (.ref x.t) (.ref y.t) (cT x.key y.key):=by
 obtain⟨t1,i1,h1,l1,s1⟩:=px;obtain⟨t2,i2,h2,l2,s2⟩:=py;refine rR h1 h2 ?_ ω;show Lex A.in1 s [.int x.n t1,.ref x.l] [.int y.n t2,.ref y.l] _;unfold cT A1.key;have hi:=kO (A:=A.in1) (s:=s) x.n t1 y.n t2;by_cases e:x.n=y.n
 .rw[aJ e];rw[show(x.n==y.n)=true by simpa using e] at hi;refine .eq hi ?_;have lay:∀{ss:Aab},(∀z∈ss,PyData.strOk z=true)->PyData.canLay0 (.list (ss.map .str))=true:=λ{ss} h=>by
   rw[PyData.canLay0];induction ss with
   |nil=>rw[sY,PyData.canLayAll0]
   |cons n ns ih=>rw[bG,PyData.canLayAll0,cA];exact⟨by rw[PyData.canLay0];exact h n bT,ih λm hm=>h m (bJ _ hm)⟩
  have Wd:∀ss:Aab,(PyData.list (ss.map .str)).depth<=1:=λss=>by
   rw[PyData.depth];have:PyData.depthAll (ss.map .str)<=0:=jn λd hd=>by obtain⟨z,_,rfl⟩:=br.mp hd;simp[PyData.depth]
   omega
  obtain⟨as1,r1⟩:=ij (h:=s.heap) s1;obtain⟨as2,r2⟩:=ij (h:=s.heap) s2;obtain⟨ZS,g1,c1,n1,d1⟩:=l1;obtain⟨ZT,g2,c2,n2,d2⟩:=l2;have We:Reads s.heap (.ref x.l) (.list (x.o.map .str)) _:=.list g1 c1 d1 (by simpa using r1);have Wf:Reads s.heap (.ref y.l) (.list (y.o.map .str)) _:=.list g2 c2 d2 (by simpa using r2);have hl:=PM _ _ A.in1 s _ _ _ _ We Wf (lay ox) (lay oy) (by have:=Wd x.o;have:A.in1.units<=A.units+8:=(by first|exact ao _|(show A.units+_<=_;omega));have:=mK (PyData.list (x.o.map .str)).depth (PyData.list (y.o.map .str)).depth;omega);by_cases eo:x.o=y.o
  .have e1:PyData.eqv (.list (x.o.map .str)) (.list (y.o.map .str))=true:=by rw[zS,aZ eo]
   rw[e1] at hl;rw[eo,nF];exact .eq hl .nn
  .have e1:PyData.eqv (.list (x.o.map .str)) (.list (y.o.map .str))=false:=by rw[zS,bw eo]
   rw[e1] at hl;refine .lt hl ?_;exact LB ⟨ZS,g1,c1,n1,d1⟩ ⟨ZT,g2,c2,n2,d2⟩ (by simpa using nE s1 s2) (by have:A.in1.units<=A.units+8:=(by first|exact ao _|(show A.units+_<=_;omega));omega)
 .rw[aI e];rw[show(x.n==y.n)=false by simpa using e] at hi;exact .lt hi (nB.int x.n t1 y.n t2)
def E5 (hc:X.calm=true) (hu:X.A.units+64<cLine):dR X (.builtin "min") (λxs H Q=>∃(p:aq) (ts:List A1),xs=[.ref p]/\gj X.K H p (ts.map λt=>V.ref t.t)/\ts≠[]/\(∀t∈ts,mR H t)/\∀t∈ts,(∀u∈ts,cT u.key t.key=false)->Q (.ref t.t) H):=by
 intro ac s U H xs us Q I r h;obtain⟨p,ts,rfl,hq,ne,ok,q⟩:=h;obtain⟨u,rfl,rx⟩:=mB r;cases(show u=Value.ref p from rx);obtain⟨bV,rv,pl,hz⟩:=I.list hq;have hl:=rv.length;rw[ah] at hl;have pos:0<ts.length:=jA.mpr ne;have ie:p<s.heap.objs.size:=by obtain⟨o,e,_⟩:=pl.isList;exact aG e
 have items:∀(i:Nat) v,bV.toArray[i]?=some v->∃hi:i<ts.length,v=.ref ts[i].t:=λi v hv=>by
  have Qu:bV[i]?=some v:=by simpa using hv
  have hi:i<ts.length:=by rw[hl];exact(aF.mp Qu).1
  obtain⟨u,hu,ru⟩:=rv.get (i:=i) (x:=V.ref ts[i].t) (by rw[aR,ag hi];rfl);rw[Qu] at hu;cases hu;exact⟨hi,ru⟩
 have Wg:∀t∈ts,LF s.heap t:=λt ht=>by
  obtain⟨h1,h2,_⟩:=ok t ht;obtain⟨i1,r1,p1,_⟩:=I.tuple (iY.of h1);obtain⟨i2,r2,p2,_⟩:=I.list (gj.of h2);cases r1 with
  |cons ra rb=>
   cases rb with
   |cons rc rd=>cases rd;obtain⟨tok,rfl⟩:=ra;cases rc;exact⟨tok,i2,p1,p2.isList,iy r2⟩
 have gt:∀t∈ts,t.t<s.heap.objs.size/\t.l<s.heap.objs.size:=λt ht=>by obtain⟨tok,i2,⟨o,e,_⟩,⟨o2,e2,_⟩,_⟩:=Wg t ht;exact⟨aG e,aG e2⟩
 refine wV (dQ pl.isList ?_);have W:=jG (prog:=X.prog) (w:=X.w) (A:=X.A.in1) (I.ok.hd hc) s.heap.objs.size p (aW ie) bV.toArray;have W2:=Walks.Wc W (λh=>∀t∈ts,LF h t) (ts.map (·.t)++ts.map (·.l)) (λh h' f k t ht=>(f t ht).keep (k t.t (bh _ (dr ht))) (k t.l (aD _ (dr ht)))) (λb hb z=>by
  rw[aK] at z;subst z;rcases aX.mp hb with hb|hb
  .obtain⟨t,ht,e⟩:=br.mp hb;have:=(gt t ht).1;rw[e] at this;exact absurd this (cD _)
  .obtain⟨t,ht,e⟩:=br.mp hb;have:=(gt t ht).2;rw[e] at this;exact absurd this (cD _));refine⟨s.heap.objs.size,_,_,bV.toArray.size,_,_,λi j=>cT ((ts.getD i ⟨0,0,0,[]⟩).key) ((ts.getD j ⟨0,0,0,[]⟩).key),rfl,W2,⟨⟨⟨_,av _ rfl,rfl,rfl⟩,pl.isList.at λo e=>af _ e⟩,λt ht=>(Wg t ht).keep (λo e=>af _ e) (λo e=>af _ e)⟩,?_,by rw[aC];omega,?_,λv h' tk hP hk=>?_⟩
 .intro b hb;rw[bP];rcases aX.mp hb with hb|hb
  .simp only[aU,bF,eE] at hb;rcases hb with rfl|rfl
   .exact c_ _
   .exact b8 ie
  .rcases aX.mp hb with hb|hb
   .obtain⟨t,ht,e⟩:=br.mp hb;rw[<-e];exact b8 (gt t ht).1
   .obtain⟨t,ht,e⟩:=br.mp hb;rw[<-e];exact b8 (gt t ht).2
 .intro i j vi vj k s' Q' E' st hi hj hQ;obtain⟨li,rfl⟩:=items i vi hi;obtain⟨lj,rfl⟩:=items j vj hj;have mi:=dD li;have mj:=dD lj;dsimp only at hQ;rw[show ts.getD i ⟨0,0,0,[]⟩=ts[i] by rw[aw,ag li];rfl,show ts.getD j ⟨0,0,0,[]⟩=ts[j] by rw[aw,ag lj];rfl] at hQ;exact LF.lt (st.2 _ mi) (st.2 _ mj) (ok _ mi).2.2 (ok _ mj).2.2 (by have:X.A.in1.units<=X.A.units+8:=(by first|exact ao _|(show X.A.units+_<=_;omega));omega) _ _ _ _ hQ
 .rw[aC,<-hl] at hP;obtain⟨hi,rfl⟩:=items _ v hP;have b:=qL cT mo (λ_ _ _=>iW) (λi=>(ts.getD i ⟨0,0,0,[]⟩).key) (ts.length-1);refine⟨.ref _,H,I.kept (t':=tk) λb o e=>hk b o (λz=>absurd (aG e) (by rw[aK.mp z];exact cD _)) (af _ e),rfl,q _ (dD hi) λu hu=>?_⟩;obtain⟨j,hj,rfl⟩:=mV hu;have:=b.2 j ω;try dsimp only at this
  rw[show ts.getD j ⟨0,0,0,[]⟩=ts[j] by rw[aw,ag hj];rfl] at this;rw[aw,ag hi] at this;exact this
def wW (hc:X.calm=true):dR X (.builtin "sum") (λxs H Q=>∃(p:aq) (ns:List Int),xs=[.ref p]/\gj X.K H p (ns.map V.int)/\Q (.int (preSum (λi=>ns.getD i 0) ns.length)) H):=by
 intro ac s U H xs us Q I r h;obtain⟨p,ns,rfl,hq,q⟩:=h;obtain⟨u,rfl,rx⟩:=mB r;cases(show u=Value.ref p from rx);obtain⟨bV,rv,pl,hz⟩:=I.list hq;have ie:p<s.heap.objs.size:=by obtain⟨o,e,_⟩:=pl.isList;exact aG e
 have hl:=rv.length;rw[ah] at hl;refine call_sum_walkG (dQ pl.isList ?_);refine⟨s.heap.objs.size,_,_,bV.toArray.size,_,_,λi=>ns.getD i 0,rfl,jG (prog:=X.prog) (w:=X.w) (A:=X.A.in1) (I.ok.hd hc) s.heap.objs.size p (aW ie) bV.toArray,⟨⟨_,av _ rfl,rfl,rfl⟩,pl.isList.at λo e=>af _ e⟩,?_,?_,λh' tk t' hk=>?_⟩
 .intro b hb;rw[bP];rcases aU.mp hb with e|e
  .rw[e];exact c_ _
  .rw[aK.mp e];exact b8 ie
 .intro i v hP;have mG:bV[i]?=some v:=by simpa using hP
  have hi:i<bV.length:=(aF.mp mG).1;obtain⟨u,hu,ru⟩:=rv.get (i:=i) (x:=V.int (ns.getD i 0)) (by rw[aR,ag ω];simp[List.getD,ag (show i<ns.length by omega)]);rw[mG] at hu;cases hu;exact ru
 .refine⟨.int _,H,I.kept λb o e=>hk b o (by simpa using aW (aG e)) (af _ e),⟨t',rfl⟩,?_⟩;rw[aC,<-hl];exact q
def E6 (hi:i.natAbs<2^2000) (hj:j.natAbs<2^2000):IntMulOk i j:=by
 have b:∀{k:Int},k.natAbs<2^2000->Builtin.Int.intBits k<=2000:=λ{k} h=>by
  unfold Builtin.Int.intBits;split
  .exact bH _
  .rename_i hk;have k0:k.natAbs≠0:=λz=>hk (by simp;omega);have:k.natAbs.log2<2000:=(Nat.log2_lt k0).mpr h;omega
 have h1:=b hi;have h2:=b hj;unfold IntMulOk Builtin.Int.intTooBig;rw[bw (p:=(Builtin.Int.intBits i:Int)+(Builtin.Int.intBits j:Int)>(bitsLine:Int)) (by have:(4000:Int)<=(bitsLine:Int):=δ;omega)];simp
def Dl:gT X (binaryOp .Mult) (rI (λi j=>i.natAbs<2^2000/\j.natAbs<2^2000) λi j=>.int (i*j)):=Qr λ_ _ _ _ _ _ _ hc q=>mul_int q (E6 hc.1 hc.2)
def Wh (K:Φ):R2:=λx y H Q=>∃a b xs ys,x=.ref a/\y=.ref b/\iY K H a xs/\iY K H b ys/\ys≠[]/\xs.length+ys.length<=sizeLine/\ (xs=[]->Q (.ref b) H)/\(xs≠[]->∀p,H p=none->Q (.ref p) (upd H p (.tup (xs++ys))))
def LH:gT X (binaryOp .Add) (Wh X.K):=by
 intro ac s U H x y v u Q I rx ry h;obtain⟨a,b,xs,ys,rfl,rfl,ha,hb,hy,hz,q1,q2⟩:=h;by_cases hx:xs=[]
 .cases rx;cases ry;obtain⟨bV,r1,p1,_⟩:=I.tuple ha;obtain⟨jV,r2,p2,_⟩:=I.tuple hb;obtain⟨⟨cls,dd,data,sl⟩,ho,hc,n,hd⟩:=id p1;obtain⟨⟨Qy,A0,data2,qz⟩,By,G8,n2,hd2⟩:=id p2;simp only at hc hd G8 hd2;subst hc hd G8 hd2;have e0:bV=[]:=by rw[hx] at r1;cases r1;rfl
  exact Kx ⟨_,ho,rfl⟩ ⟨_,By,rfl⟩ PL seq_tuple_add sX rh (qe _ _) (tuple_addW0 a b bV.toArray jV.toArray n n2 dd A0 sl qz (by rw[e0];rfl)) ⟨ho,By,⟨.ref b,H,I,rfl,q1 hx⟩⟩
 .exact La ac s U H (.ref a) (.ref b) v u Q I rx ry ⟨a,b,xs,ys,rfl,rfl,ha,hb,hx,hz,λe=>absurd e hy,λ_=>q2 hx⟩
section
variable {tg:Expr}
end
section
variable {K:Type}[DecidableEq K]{knd:HeapKind prog w K}{a b:aq}
end
abbrev F0:ai->ar->Prop:=λ_ _=>False
section
variable {R:Result->ar->Prop}
abbrev two (elt tg iter:Expr) (ifs:List Expr) (qd fk:Expr) (jF:List Expr) (scope:Scope) (pos:Pos):Expr:=.ListComp elt [⟨tg,iter,ifs,0⟩,⟨qd,fk,jF,0⟩] scope pos
def zT (elt tg iter:Expr) (ifs:List Expr) (qd fk:Expr) (jF:List Expr) (scope:Scope) (pos:Pos) (it acc:ai) (env:Env):
  compTurn (two elt tg iter ifs qd fk jF scope pos) 1 it acc env=(do
   standAt fk.pos
   match<-pyNext it with
   |none=>pure (.done .next)
   |some v=>
    letOwnedTupleGo qd it v
    assign qd env v
    let mut ok:=true
    for c in jF do
     if ok then ok<-isTrue c env (eval c env)
    if ok then
     (do let _<-call (.builtin "list.append") [acc,<-eval elt env])
    again (.compLoop (two elt tg iter ifs qd fk jF scope pos) 1 it acc env)):=by rfl
def x6 (elt tg iter:Expr) (ifs:List Expr) (qd fk:Expr) (jF:List Expr) (scope:Scope) (pos:Pos) (it acc:ai) (env:Env):
  compTurn (two elt tg iter ifs qd fk jF scope pos) 0 it acc env=(do
   standAt iter.pos
   match<-pyNext it with
   |none=>pure (.done .next)
   |some v=>
    letOwnedTupleGo tg it v
    assign tg env v
    let mut ok:=true
    for c in ifs do
     if ok then ok<-isTrue c env (eval c env)
    if ok then
     let x<-eval fk env
     standAt fk.pos
     let x<-foldedSetIterable fk env x;let _<-runOwn (.compStart (two elt tg iter ifs qd fk jF scope pos) 1 (<-holding [x] (pyIter x)) acc env) env
    again (.compLoop (two elt tg iter ifs qd fk jF scope pos) 0 it acc env)):=by rfl
def E7 (I:Nat->ar->Prop) (turn:∀n s,I n s->wpAny (model prog w) A (pyNext it) (λr cZ=>match r with
   |none=>R (.ok .next) cZ
   |some v=>wpAny (model prog w) A (letOwnedTupleGo qd it v) (λ_ cZ=>wpAny (model prog w) A (assign qd env v) (λ_ jB=>
    wpAny (model prog w) A (forIn jF true λc r=>if r=true then do let ok<-isTrue c env (eval c env);pure (ForInStep.yield ok) else pure (ForInStep.yield r)) (λok lh=>
     if ok=true then wpAny (model prog w) A (eval elt env) (λx uD=>
      wpAny (model prog w) A (call (.builtin "list.append") [acc,x]) (λ_ uE=>∃m,m<n/\I m uE) F0 uD) F0 lh
     else∃m,m<n/\I m lh) F0 jB) F0 cZ) F0 cZ) F0 s)
  (n:Nat) (h:I n s):
  codeAny (model prog w) A (.compLoop (two elt tg iter ifs qd fk jF scope pos) 1 it acc env) R s:=by
 refine KC rfl I (λn s hI=>?_) n h;show wpAny _ A ((compTurn (two elt tg iter ifs qd fk jF scope pos) 1 it acc env).onRaise (λx=>do noteFrame x env;theTreesLotGoes x)) _ _ s;refine Ul ?_;rw[zT];refine aa (dP (aa (aN (turn n s hI) (λr cZ vU=>?_) λ_ _ h'=>h'.elim)));cases r with
 |none=>exact au vU
 |some v=>
  refine aa (aN vU (λ_ OA zz=>?_) λ_ _ h'=>h'.elim);refine aa (aN zz (λ_ jB xS=>aa (aN xS (λok lh vV=>?_) λ_ _ h'=>h'.elim)) λ_ _ h'=>h'.elim);cases ok with
  |false=>exact au ⟨rfl,vV⟩
  |true=>exact aa (aa (aN vV (λx uD Hg=>aa (aN Hg (λ_ uE Hh=>au (au ⟨rfl,Hh⟩)) λ_ _ h'=>h'.elim)) λ_ _ h'=>h'.elim))
def x8 (h0:codeAny (model prog w) A (.compLoop (two elt tg iter ifs qd fk jF scope pos) 1 it acc env) R s) (h:wpAny (model prog w) A (pyIter it) (λit' s'=>codeAny (model prog w) A (.compLoop (two elt tg iter ifs qd fk jF scope pos) 1 it' acc env) R s') F0 s):
  codeAny (model prog w) A (.compStart (two elt tg iter ifs qd fk jF scope pos) 1 it acc env) R s:=by
 refine codeAny_of_tree ?_;show wpAny _ _ ((compStart (two elt tg iter ifs qd fk jF scope pos) 1 it acc env).onRaise (λx=>do noteFrame x env;standAt theWindowsPlace)) _ _ s;refine wpAny_notedAt ?_;unfold compStart;show wpAny _ _ (ask>>=_) _ _ s;refine aa (PN (wpAny_ite ?_));split
 .first
   |exact aa (au (au (And.intro rfl h0)))
   |exact au (And.intro rfl h0)
 .first
   |exact aa (m5 (aa (dP (aa (aN h (λit' s' h'=>au (And.intro rfl h')) λ_ _ x=>x.elim)))))
   |(refine aa (m5 ?_);show wpAny _ _ (standAt fk.pos>>=_) _ _ s;exact aa (dP (aa (aN h (λit' s' h'=>au (And.intro rfl h')) λ_ _ x=>x.elim))))
def BU (K2:∀x,foldedSetIterable fk env x=pure x) (I:Nat->ar->Prop) (turn:∀n s,I n s->wpAny (model prog w) A (pyNext it) (λr cZ=>match r with
   |none=>R (.ok .next) cZ
   |some v=>wpAny (model prog w) A (letOwnedTupleGo tg it v) (λ_ cZ=>wpAny (model prog w) A (assign tg env v) (λ_ jB=>
    wpAny (model prog w) A (forIn ifs true λc r=>if r=true then do let ok<-isTrue c env (eval c env);pure (ForInStep.yield ok) else pure (ForInStep.yield r)) (λok lh=>
     if ok=true then wpAny (model prog w) A (eval fk env) (λx uD=>wpAny (model prog w) A (pyIter x) (λZU uE=>
      codeAny (model prog w) A (.compStart (two elt tg iter ifs qd fk jF scope pos) 1 ZU acc env) (λr s'=>match r with| .ok _=>∃m,m<n/\I m s'| .error _=>False) uE) F0 uD) F0 lh
     else∃m,m<n/\I m lh) F0 jB) F0 cZ) F0 cZ) F0 s)
  (n:Nat) (h:I n s):
  codeAny (model prog w) A (.compLoop (two elt tg iter ifs qd fk jF scope pos) 0 it acc env) R s:=by
 refine KC rfl I (λn s hI=>?_) n h;show wpAny _ A ((compTurn (two elt tg iter ifs qd fk jF scope pos) 0 it acc env).onRaise (λx=>do noteFrame x env;theTreesLotGoes x)) _ _ s;refine Ul ?_;rw[x6];refine aa (dP (aa (aN (turn n s hI) (λr cZ vU=>?_) λ_ _ h'=>h'.elim)));cases r with
 |none=>exact au vU
 |some v=>
  refine aa (aN vU (λ_ OA zz=>?_) λ_ _ h'=>h'.elim);refine aa (aN zz (λ_ jB xS=>aa (aN xS (λok lh vV=>?_) λ_ _ h'=>h'.elim)) λ_ _ h'=>h'.elim);cases ok with
  |false=>exact au ⟨rfl,vV⟩
  |true=>
   refine aa (aN vV (λx uD Hg=>?_) λ_ _ h'=>h'.elim);refine aa (dP (aa ?_));rw[K2];refine au (aa (cf (aN Hg (λZU uE Hh=>?_) λ_ _ h'=>h'.elim)));refine aa (wpAny_runOwn (iM Hh λr s' hr=>?_));cases r with
   |ok f=>exact au ⟨rfl,hr⟩
   |error e=>exact hr.elim
end
def LI (D:aq) (J:It) (g:TG) (tc:TT) (te:TE) (kr:St) (H1:Hp) (R:St->Hp->Prop):Prop:=∃W:Nat->Nat->St->Hp->Prop,(∃m,W 0 m kr H1)/\∀i m de H',W i m de H'-> (J.stop i H'/\R de H')\/(J.go i H'/\∃(N:St->Hp->Prop) (M:V->St->Hp->Prop),(∀cz H4,N cz H4->∃m',m'<m/\W (i+1) m' cz H4)/\ (∀y cz H5,M y cz H5->∃xs m',H5 D=some (.lst xs)/\xs.length<sizeLine/\m'<m/\W (i+1) m' cz (upd H5 D (.lst (xs++ [y]))))/\ ∀x H2,J.vR i H' x H2->g x de H2 λcz H3=>tc cz H3 λb H4=>if b=true then te cz H4 λy H5=>M y cz H5 else N cz H4)
def HA (J:It) (g:TG) (tc:TT) (Gf:TI) (g2:TG) (E8:TT) (te:TE) (kr:St) (H1:Hp) (Q:VK) (D:aq):Prop:=∃W:Nat->Nat->St->Hp->Prop,(∃m,W 0 m kr (upd H1 D (.lst [])))/\∀i m de H',W i m de H'-> (J.stop i H'/\Q (.ref D) H')\/(J.go i H'/\∃N:St->Hp->Prop,(∀cz H4,N cz H4->∃m',m'<m/\W (i+1) m' cz H4)/\ ∀x H2,J.vR i H' x H2->g x de H2 λcz H3=>tc cz H3 λb H4=>if b=true then Gf cz H4 λJ2 H5=>LI D J2 g2 E8 te cz H5 N else N cz H4)
def aaO (wi:TI) (r:List (Option Nat)) (g:TG) (tc:TT) (Gf:TI) (g2:TG) (E8:TT) (te:TE):TE:=λU H Q=>wi U H λJ H1=>∀D,H1 D=none->HA J g tc Gf g2 E8 te (r.map (pick U)) H1 Q D
def wX (hN:X.N.Nodup) (VT:X.N[i0]?=some x0) (hx:Loc X.env.scope x0) (hc:X.calm=true) (hi:PI X tg iter wi) (S:cY X scope N r) (hg:∀s H fp,PG (X.mD N scope s H fp) tg g) (ht:∀s H fp,C_ (X.mD N scope s H fp) ifs tc) (Q_:∀s H fp,PI (X.mD N scope s H fp) qd fk Gf) (hg2:∀s H fp,PG (X.mD N scope s H fp) qd g2) (ht2:∀s H fp,C_ (X.mD N scope s H fp) jF E8) (he:∀s H fp,PE (X.mD N scope s H fp) elt te) (VU:swapsWith (two elt tg iter ifs qd fk jF scope pos) (some (.Name x0 pos')) BH.line X.env=pure true:=by rfl) (hs:∀x,foldedSetIterable iter X.env x=pure x:=by intro _;rfl) (K2:∀s H fp x,foldedSetIterable fk (X.mD N scope s H fp).env x=pure x:=by intro _ _ _ _;rfl) (hf:X.fn x0=true\/X.env.scope.names.lookup x0=some .local:=by first|exact .inl rfl|exact .inr rfl|assumption):
  PS X (.Assign [.Name x0 pos'] (two elt tg iter ifs qd fk jF scope pos) BH) (Bl (aaO wi r g tc Gf g2 E8 te) (d_ i0)):=by
 intro ac s U H DD I h;rw[y0 _ _ _ _ VU];refine aa (dP (aa ?_));show wpAny _ X.A (do let _<-comprehension (two elt tg iter ifs qd fk jF scope pos) scope X.env _ (newList []) false (eval iter X.env) (some (assign (.Name x0 pos') X.env))) _ _ s;refine aa (aN (?_:wpAny _ X.A _ (λ_ s'=>SP X ac DD .next s') _ s) (λ_ s' hq=>au (au hq)) λ_ _ e=>e);have zA:closureFor scope X.env=pure (eY scope X.env):=fO λy hy hk=>I.ok.has y.1 (S.out y hy hk);refine g9 (use:=some (assign (.Name x0 pos') X.env)) rfl hs zA S.kind S.own ?_;show wpAny _ _ (eval iter X.env) _ _ s;refine dq (hi ac s U H _ I h) λv s1 h1=>dq h1 λQn s2 h2=>?_;obtain⟨it,fp,tn,J,H2,e,I2,T,qb,f2,q2⟩:=h2;subst e;have hD:H2 s2.heap.objs.size=none:=I2.dh.fresh (ao _);obtain⟨W,⟨m0,w0⟩,turn⟩:=q2 _ hD;have mP:∀b∈fp,b<s2.heap.objs.size:=λb hb=>by obtain⟨o,e,_⟩:=T.obj _ _ qb b hb;exact aG e
 refine bS ?_;generalize uc:({s2 with heap:=s2.heap.push {cls:=.type "list",dict:=none,data:=.seq ([]:Aad).toArray}}:ar)=s3;have k3:∀b o,s2.heap.get? b=some o->s3.heap.get? b=some o:=λb o e=>by rw[<-uc];exact af _ e
 have z3:s3.heap.objs.size=s2.heap.objs.size+1:=by rw[<-uc];exact bP ..
 have u3:Un (nV X.stack) fp H2 (upd H2 s2.heap.objs.size (.lst [])) s2.heap s3.heap:=Un.laid k3 (ao _) hD;have o3:s3.os=s2.os:=by rw[<-uc]
 have I3:Inv X ac U (upd H2 s2.heap.objs.size (.lst [])) s3:=by rw[<-uc];exact I2.laid (t':=s2.toks) (λb u e=>af _ e) (ao _) ⟨bH _,[],0,.nil,av _ rfl⟩
 have f3:∀b∈fp,gn X ac (upd H2 s2.heap.objs.size (.lst [])) b:=λb hb=>⟨by rw[bN (aW (mP b hb))];exact(f2 b hb).1,(f2 b hb).2⟩;refine gS S.jm (by intro y hy;simp at hy) (λh4 xT xU=>?_) S.kind;have k4:∀b o,s3.heap.get? b=some o->h4.get? b=some o:=λb o e=>xU.extBut b o (aW (aG e)) (af _ e);have J4:Inv (X.mD N scope s3 (upd H2 s2.heap.objs.size (.lst [])) fp) [] (r.map (pick U)) (upd H2 s2.heap.objs.size (.lst [])) {s3 with heap:=h4,toks:=s3.toks+([]:List (Str×ai)).length}:=lG S I3 f3 (λb hb=>by rw[z3];exact b8 (mP b hb)) xT k4;have Dd:tn 0 h4:=T.keep _ _ _ qb λb _ o e=>k4 b o (k3 b o e);have kf:∀{H':Hp},(∀b∈fp,H' b=none)->∀b∈fp,gn (X.mD N scope s3 (upd H2 s2.heap.objs.size (.lst [])) fp) [] H' b:=λhn b hb=>
  ⟨hn b hb,(J4.ok.AY b hb).1,J4.ok.rF b hb,.inl hb,(J4.ok.AY b hb).2,λp hp=>absurd (show p∈([]:Aaa) from hp) ς⟩;generalize hY:X.mD N scope s3 (upd H2 s2.heap.objs.size (.lst [])) fp=Y at*;have loop:∀s4:ar,s4={s3 with heap:=h4,toks:=s3.toks+([]:List (Str×ai)).length}-> codeAny (model X.prog X.w) X.A (.compLoop (two elt tg iter ifs qd fk jF scope pos) 0 (.ref it) (.ref s2.heap.objs.size) Y.env) (compPost (model X.prog X.w) X.A X.xe (some (assign (.Name x0 pos') X.env)) (λ_ s'=>SP X ac DD .next s') (.ref s2.heap.objs.size) s3.heap.objs.size) s4:=by
  rintro s4 rfl;have yp:Y.prog=X.prog:=by rw[<-hY]
  have yw:Y.w=X.w:=by rw[<-hY]
  have yK:Y.K=X.K:=by rw[<-hY]
  have yA:Y.A=X.A:=by rw[<-hY]
  have yc:Y.calm=true:=by rw[<-hY];exact hc
  have Lf:PG Y tg g:=by rw[<-hY];exact hg _ _ _
  have Lg:C_ Y ifs tc:=by rw[<-hY];exact ht _ _ _
  have aaP:PI Y qd fk Gf:=by rw[<-hY];exact Q_ _ _ _
  have aaQ:PG Y qd g2:=by rw[<-hY];exact hg2 _ _ _
  have aaR:C_ Y jF E8:=by rw[<-hY];exact ht2 _ _ _
  have aaS:∀x,foldedSetIterable fk Y.env x=pure x:=by rw[<-hY];exact K2 _ _ _
  have Lh:PE Y elt te:=by rw[<-hY];exact he _ _ _
  have yx:∀e s',¬Y.xe e s':=λe s' z=>by rw[<-hY] at z;exact z
  refine BU aaS (λn s'=>∃i de H',Inv Y [] de H' s'/\tn i s'.heap/\(∀b∈fp,H' b=none)/\W i n de H') ?_ m0 ⟨0,_,_,J4,Dd,λb hb=>(f3 b hb).1,w0⟩;rintro n s5 ⟨i,ud,H5,I5,yV,AZ,w5⟩;rcases turn i n ud H5 w5 with⟨stop,qn⟩|⟨go,Nn,Kf,step⟩
  .have d:=T.done Y yp yw yK yc i [] s5 ud H5 F0 I5 (kf AZ) yV stop;rw[yA] at d;refine dq d λrr s6 fh=>?_;obtain⟨hr,I6⟩:=fh;subst hr;obtain⟨m,hn,_⟩:=id I6.loc;rw[<-hY] at I6 hn;have IX:Inv X ac U H5 s6:=qF I2 f2 u3 (by rw[z3];exact dg _) o3 I6 (KD _ _);have hC:H5 s3.heap.objs.size=none:=I6.free;obtain⟨f0,f1,f2',VW,f4,f5⟩:=I3.pL (ao _) hC;refine tQ (nX IX hN VT hx (show RelV (V.ref s2.heap.objs.size) _ from rfl) (λs7 I7 fh=>?_) hf);obtain⟨a,Hl,ha⟩:=fh;have VX:s3.heap.objs.size≠a:=by
    rcases ha with rfl|ha
    .exact f1
    .exact λz=>f4 _ _ ha z.symm
   refine⟨m,Va hn Hl VX,λh' Hi=>⟨_,H5,I7.turned (t':=s7.toks) (it:=s3.heap.objs.size) (λb o hb e=>Hi.extBut b o hb e) hC f1 VW f4 f5,qn⟩⟩
  .have d:=T.item Y yp yw yK yc i [] s5 ud H5 F0 I5 (kf AZ) yV go;rw[yA] at d;refine dq d λrr s6 fh=>?_;obtain⟨u,hr,h6⟩:=fh;subst hr;refine dq h6 λ_ s7 fh=>?_;obtain⟨x,H7,I7,r7,y7,xV,Li⟩:=fh;have Lj:=I7.pinned (kf Li) (T.obj _ _ xV);have g7:=Lf _ s7 ud H7 x u _ Lj r7 (step x H7 y7);rw[yp,yw,yA] at g7;refine aN g7 (λ_ s8 fh=>?_) λe s' z=>(yx e s' z).elim;obtain⟨qc,H8,I8,q8⟩:=fh;have t8:=Lg _ s8 qc H8 _ I8 q8;rw[yp,yw,yA] at t8;refine aN t8 (λok s9 fh=>?_) λe s' z=>(yx e s' z).elim;obtain⟨H9,I9,q9⟩:=fh;have again:∀{jW:ar} {LJ:St} {og:Hp} {m':Nat},Inv Y ([]++ke fp s7.heap) LJ og jW->m'<n->W (i+1) m' LJ og->∃m,m<n/\∃i de H',Inv Y [] de H' jW/\tn i jW.heap/\(∀b∈fp,H' b=none)/\W i m de H':=λ{jW LJ og m'} rN hm wK=>by refine⟨m',hm,i+1,LJ,og,rN.gf,T.keep _ _ _ xV λb hb o e=>(rN.pin (b,o) (aD _ (aD _ (eK hb e)))).1,λb hb=>?_,wK⟩;obtain⟨o,e,d⟩:=T.obj _ _ xV b hb;exact(rN.pin (b,o) (aD _ (aD _ (eK hb e)))).2.1
   cases ok with
   |false=>rw[aI ς] at q9⊢;obtain⟨m',hm,w9⟩:=Kf _ _ q9;exact again I9 hm w9
   |true=>
    rw[aJ rfl] at q9⊢;generalize ([]++ke fp s7.heap:Aaa)=P7 at*;have e9:=aaP P7 s9 qc H9 _ I9 q9;rw[yp,yw,yA] at e9;refine aN e9 (λv2 jW h10=>?_) λe s' z=>(yx e s' z).elim;refine aN h10 (λacE De h11=>?_) λe s' z=>(yx e s' z).elim;obtain⟨ZU,Wi,tn2,J2,ZK,VQ,Hj,T2,Wj,f11,W2,⟨k0,w20⟩,Wl⟩:=h11;subst VQ;rw[yp,yw,yK] at T2;have HB:∀{H':Hp},(∀b∈Wi,H' b=none)->∀b∈Wi,gn Y P7 H' b:=λhn b hb=>⟨hn b hb,(f11 b hb).2⟩;have inner:codeAny (model X.prog X.w) X.A (.compLoop (two elt tg iter ifs qd fk jF scope pos) 1 (.ref ZU) (.ref s2.heap.objs.size) Y.env) (λr s'=>match r with| .ok _=>∃m,m<n/\∃i de H',Inv Y [] de H' s'/\tn i s'.heap/\(∀b∈fp,H' b=none)/\W i m de H'| .error _=>False) De:=by
     refine E7 (λk s'=>∃j de H',Inv Y P7 de H' s'/\tn2 j s'.heap/\(∀b∈Wi,H' b=none)/\W2 j k de H') ?_ k0 ⟨0,_,_,Hj,Wj,λb hb=>(f11 b hb).1,w20⟩;rintro k t5 ⟨j,LK,H12,UE,Wm,Wn,ZV⟩;rcases Wl j k LK H12 ZV with⟨Wp,qn2⟩|⟨Kg,N2,M2,hN2,hM2,Wq⟩
     .have d:=T2.done Y yp yw yK yc j P7 t5 LK H12 F0 UE (HB Wn) Wm Wp;rw[yA] at d;refine dq d λrr s6 fh=>?_;obtain⟨hr,I6⟩:=fh;subst hr;obtain⟨m',hm,w13⟩:=Kf _ _ qn2;exact again I6 hm w13
     .have d:=T2.item Y yp yw yK yc j P7 t5 LK H12 F0 UE (HB Wn) Wm Kg;rw[yA] at d;refine dq d λrr s6 fh=>?_;obtain⟨u2,hr,h6⟩:=fh;subst hr;refine dq h6 λ_ zU fh=>?_;obtain⟨x2,H13,I13,r13,y13,Ra,aaT⟩:=fh;have aaU:=I13.pinned (HB aaT) (T2.obj _ _ Ra);have g13:=aaQ _ zU LK H13 x2 u2 _ aaU r13 (Wq x2 H13 y13);rw[yp,yw,yA] at g13;refine aN g13 (λ_ Dm fh=>?_) λe s' z=>(yx e s' z).elim;obtain⟨E9,H14,I14,Wr⟩:=fh;have ZW:=aaR _ Dm E9 H14 _ I14 Wr;rw[yp,yw,yA] at ZW;refine aN ZW (λok2 LL fh=>?_) λe s' z=>(yx e s' z).elim;obtain⟨H15,I15,ZX⟩:=fh;have HC:∀{Kh:ar} {Rc:Hp} {m':Nat},Inv Y (P7++ke Wi zU.heap) E9 Rc Kh->m'<k->W2 (j+1) m' E9 Rc->∃m,m<k/\∃j de H',Inv Y P7 de H' Kh/\tn2 j Kh.heap/\(∀b∈Wi,H' b=none)/\W2 j m de H':=λ{Kh Rc m'} Ws hm w16=>by refine⟨m',hm,j+1,E9,Rc,Ws.gf,T2.keep _ _ _ Ra λb hb o e=>(Ws.pin (b,o) (aD _ (aD _ (eK hb e)))).1,λb hb=>?_,w16⟩;obtain⟨o,e,d⟩:=T2.obj _ _ Ra b hb;exact(Ws.pin (b,o) (aD _ (aD _ (eK hb e)))).2.1
      cases ok2 with
      |false=>rw[aI ς] at ZX⊢;obtain⟨m',hm,w9⟩:=hN2 _ _ ZX;exact HC I15 hm w9
      |true=>rw[aJ rfl] at ZX⊢;have e15:=Lh _ LL E9 H15 _ I15 ZX;rw[yp,yw,yA] at e15;refine aN e15 (λuu Kh fh=>?_) λe s' z=>(yx e s' z).elim;obtain⟨y,Rc,Ws,r16,hM⟩:=fh;obtain⟨xs,m',aaV,hz,hm,w16⟩:=hM2 _ _ _ hM;have a16:=n_ _ Kh E9 Rc (.ref s2.heap.objs.size) [y] (.ref s2.heap.objs.size) [uu] (λv Hq=>v=.e_/\Hq=upd Rc s2.heap.objs.size (.lst (xs++ [y]))) Ws rfl (.cons r16 .nil) ⟨_,xs,y,rfl,rfl,aaV,hz,rfl,rfl⟩;rw[yp,yw,yA] at a16;refine aN a16 (λ_ s17 fh=>?_) λe s' z=>(yx e s' z).elim;obtain⟨_,H17,I17,_,_,UI⟩:=fh;subst UI;exact HC I17 hm w16
    exact x8 inner (T2.self _ 0 _ _ _ Wj inner)
 have Lk:Y.env={scope:=relabel scope X.env,locals:=s3.heap.objs.size,globals:=X.env.globals,cells:=eY scope X.env,qual:=X.env.qual,func:=none,code:=X.env.code,frame:=X.env.frame,builtins:=X.env.builtins}:=by rw[<-hY];rfl
 rw[Lk] at loop;exact xA (loop _ rfl) (T.self _ 0 _ _ _ Dd (loop _ rfl))
def LM {J:It}{n:Nat}{f:Nat->V}{g:TG}{tc:TT}{te:TE}{kr:St}{H1:Hp}{R:St->Hp->Prop}{D:aq}(Iv:Nat->Aac->St->Hp->Prop) (zs:Aac) (hz:zs.length+n<=100000) (hD:H1 D=some (.lst zs)) (h0:Iv 0 zs kr H1) (hj:∀i ys U H,i<=n->H D=some (.lst ys)->Iv i ys U H->(i=n->J.stop i H)/\(i<n->J.go i H/\∀x H',J.vR i H x H'->H'=H/\x=f i)) (hs:∀i ys U H,i<n->H D=some (.lst ys)->Iv i ys U H->g (f i) U H λcz H3=>tc cz H3 λb H4=>
   if b=true then te cz H4 λy H5=>H5 D=some (.lst ys)/\Iv (i+1) (ys++ [y]) cz (upd H5 D (.lst (ys++ [y]))) else H4 D=some (.lst ys)/\Iv (i+1) ys cz H4)
  (hd:∀ys U H,H D=some (.lst ys)->Iv n ys U H->R U H):LI D J g tc te kr H1 R:=by
 refine⟨λi m U H=>m=n-i/\i<=n/\∃ys,H D=some (.lst ys)/\ys.length<=zs.length+i/\Iv i ys U H,⟨n,rfl,bH _,zs,hD,ao _,h0⟩,?_⟩;rintro i m U H ⟨rfl,hi,ys,hy,hl,iv⟩;obtain⟨j1,j2⟩:=hj i ys U H hi hy iv;by_cases ie:i<n
 .obtain⟨go,yl⟩:=j2 ie;refine .inr ⟨go,λcz H4=>H4 D=some (.lst ys)/\Iv (i+1) ys cz H4,λy cz H5=>H5 D=some (.lst ys)/\Iv (i+1) (ys++ [y]) cz (upd H5 D (.lst (ys++ [y]))),λcz H4 q=>?_,λy cz H5 q=>?_,λx H2 q=>?_⟩
  .exact⟨n-(i+1),ω,rfl,ie,ys,q.1,ω,q.2⟩
  .exact⟨ys,n-(i+1),q.1,bU ω (show(100000:Nat)<sizeLine by decide),ω,rfl,ie,ys++ [y],ba,by rw[aA,aE];omega,q.2⟩
  .obtain⟨rfl,rfl⟩:=yl x H2 q;exact hs i ys U _ ie hy iv
 .have e:i=n:=ω;subst e;exact .inl ⟨j1 rfl,hd ys U H hy iv⟩
def HD {J:It}{n:Nat}{f:Nat->V}{g:TG}{tc:TT}{Gf:TI}{g2:TG}{E8:TT}{te:TE}{kr:St}{H1:Hp}{Q:VK}{D:aq}(Iv:Nat->Aac->St->Hp->Prop) (h0:Iv 0 [] kr (upd H1 D (.lst []))) (hj:∀i ys U H,i<=n->H D=some (.lst ys)->Iv i ys U H->(i=n->J.stop i H)/\(i<n->J.go i H/\∀x H',J.vR i H x H'->H'=H/\x=f i)) (hs:∀i ys U H,i<n->H D=some (.lst ys)->Iv i ys U H->g (f i) U H λcz H3=>tc cz H3 λb H4=>
   if b=true then Gf cz H4 λJ2 H5=>LI D J2 g2 E8 te cz H5 λσ6 H6=>∃OI,H6 D=some (.lst OI)/\Iv (i+1) OI σ6 H6 else∃OI,H4 D=some (.lst OI)/\Iv (i+1) OI cz H4)
  (hd:∀ys U H,H D=some (.lst ys)->Iv n ys U H->Q (.ref D) H):HA J g tc Gf g2 E8 te kr H1 Q D:=by
 refine⟨λi m U H=>m=n-i/\i<=n/\∃ys,H D=some (.lst ys)/\Iv i ys U H,⟨n,rfl,bH _,[],ba,h0⟩,?_⟩;rintro i m U H ⟨rfl,hi,ys,hy,iv⟩;obtain⟨j1,j2⟩:=hj i ys U H hi hy iv;by_cases ie:i<n
 .obtain⟨go,yl⟩:=j2 ie;refine .inr ⟨go,λcz H4=>∃OI,H4 D=some (.lst OI)/\Iv (i+1) OI cz H4,λcz H4 q=>?_,λx H2 q=>?_⟩
  .exact⟨n-(i+1),ω,rfl,ie,q⟩
  .obtain⟨rfl,rfl⟩:=yl x H2 q;exact hs i ys U _ ie hy iv
 .have e:i=n:=ω;subst e;exact .inl ⟨j1 rfl,hd ys U H hy iv⟩
def qM (a b:Aab):PyData.eqv (.tuple (a.map .str)) (.tuple (b.map .str))=decide (a=b):=by rw[<-uN];rw[PyData.eqv]
structure OJ where
 t:aq
 l:aq
 n:Int
 o:Aab
def OJ.key (x:OJ):Int×Aab:=(x.n,x.o)
def HE (H:Hp) (x:OJ):Prop:=H x.t=some (.tup [.int x.n,.ref x.l])/\H x.l=some (.tup (x.o.map V.str))/\(∀z∈x.o,PyData.strOk z=true)
def x9 (h:Heap) (x:OJ):Prop:=∃(tok:Tok) (bV:Aad),IsTup h x.t #[.int x.n tok,.ref x.l]/\IsTup h x.l bV.toArray/\StrsAre bV x.o
def x9.keep (p:x9 h x) (k1:∀o,h.get? x.t=some o->h'.get? x.t=some o) (k2:∀o,h.get? x.l=some o->h'.get? x.l=some o):x9 h' x:=by obtain⟨tok,bV,⟨o,e,r⟩,⟨o2,e2,r2⟩,hs⟩:=p;exact⟨tok,bV,⟨o,k1 o e,r⟩,⟨o2,k2 o2 e2,r2⟩,hs⟩
def x9.lt {A}{s}(px:x9 s.heap x) (py:x9 s.heap y) (ox:∀z∈x.o,PyData.strOk z=true) (oy:∀z∈y.o,PyData.strOk z=true) (hu:A.units+20<cLine):nB A s (.ref x.t) (.ref y.t) (cT x.key y.key):=by
 obtain⟨t1,i1,h1,l1,s1⟩:=px;obtain⟨t2,i2,h2,l2,s2⟩:=py;refine rR h1 h2 ?_ ω;show Lex A.in1 s [.int x.n t1,.ref x.l] [.int y.n t2,.ref y.l] _;unfold cT OJ.key;have hi:=kO (A:=A.in1) (s:=s) x.n t1 y.n t2;by_cases e:x.n=y.n
 .rw[aJ e];rw[show(x.n==y.n)=true by simpa using e] at hi;refine .eq hi ?_;have lay:∀{ss:Aab},(∀z∈ss,PyData.strOk z=true)->PyData.canLay0 (.tuple (ss.map .str))=true:=λ{ss} h=>by
   rw[PyData.canLay0];induction ss with
   |nil=>rw[sY,PyData.canLayAll0]
   |cons n ns ih=>rw[bG,PyData.canLayAll0,cA];exact⟨by rw[PyData.canLay0];exact h n bT,ih λm hm=>h m (bJ _ hm)⟩
  have Wd:∀ss:Aab,(PyData.tuple (ss.map .str)).depth<=1:=λss=>by
   rw[PyData.depth];have:PyData.depthAll (ss.map .str)<=0:=jn λd hd=>by obtain⟨z,_,rfl⟩:=br.mp hd;simp[PyData.depth]
   omega
  obtain⟨as1,r1⟩:=ij (h:=s.heap) s1;obtain⟨as2,r2⟩:=ij (h:=s.heap) s2;obtain⟨ZS,g1,c1,n1,d1⟩:=l1;obtain⟨ZT,g2,c2,n2,d2⟩:=l2;have We:Reads s.heap (.ref x.l) (.tuple (x.o.map .str)) _:=.tuple g1 c1 d1 (by simpa using r1);have Wf:Reads s.heap (.ref y.l) (.tuple (y.o.map .str)) _:=.tuple g2 c2 d2 (by simpa using r2);have hl:=PM _ _ A.in1 s _ _ _ _ We Wf (lay ox) (lay oy) (by have:=Wd x.o;have:A.in1.units<=A.units+8:=(by first|exact ao _|(show A.units+_<=_;omega));have:=mK (PyData.tuple (x.o.map .str)).depth (PyData.tuple (y.o.map .str)).depth;omega);by_cases eo:x.o=y.o
  .have e1:PyData.eqv (.tuple (x.o.map .str)) (.tuple (y.o.map .str))=true:=by rw[qM,aZ eo]
   rw[e1] at hl;rw[eo,nF];exact .eq hl .nn
  .have e1:PyData.eqv (.tuple (x.o.map .str)) (.tuple (y.o.map .str))=false:=by rw[qM,bw eo]
   rw[e1] at hl;refine .lt hl ?_;exact rR ⟨ZS,g1,c1,n1,d1⟩ ⟨ZT,g2,c2,n2,d2⟩ (by simpa using nE s1 s2) (by have:A.in1.units<=A.units+8:=(by first|exact ao _|(show A.units+_<=_;omega));omega)
 .rw[aI e];rw[show(x.n==y.n)=false by simpa using e] at hi;exact .lt hi (nB.int x.n t1 y.n t2)
def E_ (hc:X.calm=true) (hu:X.A.units+64<cLine):dR X (.builtin "min") (λxs H Q=>∃(p:aq) (ts:List OJ),xs=[.ref p]/\gj X.K H p (ts.map λt=>V.ref t.t)/\ts≠[]/\(∀t∈ts,HE H t)/\∀t∈ts,(∀u∈ts,cT u.key t.key=false)->Q (.ref t.t) H):=by
 intro ac s U H xs us Q I r h;obtain⟨p,ts,rfl,hq,ne,ok,q⟩:=h;obtain⟨u,rfl,rx⟩:=mB r;cases(show u=Value.ref p from rx);obtain⟨bV,rv,pl,hz⟩:=I.list hq;have hl:=rv.length;rw[ah] at hl;have pos:0<ts.length:=jA.mpr ne;have ie:p<s.heap.objs.size:=by obtain⟨o,e,_⟩:=pl.isList;exact aG e
 have items:∀(i:Nat) v,bV.toArray[i]?=some v->∃hi:i<ts.length,v=.ref ts[i].t:=λi v hv=>by
  have Qu:bV[i]?=some v:=by simpa using hv
  have hi:i<ts.length:=by rw[hl];exact(aF.mp Qu).1
  obtain⟨u,hu,ru⟩:=rv.get (i:=i) (x:=V.ref ts[i].t) (by rw[aR,ag hi];rfl);rw[Qu] at hu;cases hu;exact⟨hi,ru⟩
 have Wg:∀t∈ts,x9 s.heap t:=λt ht=>by
  obtain⟨h1,h2,_⟩:=ok t ht;obtain⟨i1,r1,p1,_⟩:=I.tuple (iY.of h1);obtain⟨i2,r2,p2,_⟩:=I.tuple (iY.of h2);cases r1 with
  |cons ra rb=>
   cases rb with
   |cons rc rd=>cases rd;obtain⟨tok,rfl⟩:=ra;cases rc;exact⟨tok,i2,p1,p2,iy r2⟩
 have gt:∀t∈ts,t.t<s.heap.objs.size/\t.l<s.heap.objs.size:=λt ht=>by obtain⟨tok,i2,⟨o,e,_⟩,⟨o2,e2,_⟩,_⟩:=Wg t ht;exact⟨aG e,aG e2⟩
 refine wV (dQ pl.isList ?_);have W:=jG (prog:=X.prog) (w:=X.w) (A:=X.A.in1) (I.ok.hd hc) s.heap.objs.size p (aW ie) bV.toArray;have W2:=Walks.Wc W (λh=>∀t∈ts,x9 h t) (ts.map (·.t)++ts.map (·.l)) (λh h' f k t ht=>(f t ht).keep (k t.t (bh _ (dr ht))) (k t.l (aD _ (dr ht)))) (λb hb z=>by
  rw[aK] at z;subst z;rcases aX.mp hb with hb|hb
  .obtain⟨t,ht,e⟩:=br.mp hb;have:=(gt t ht).1;rw[e] at this;exact absurd this (cD _)
  .obtain⟨t,ht,e⟩:=br.mp hb;have:=(gt t ht).2;rw[e] at this;exact absurd this (cD _));refine⟨s.heap.objs.size,_,_,bV.toArray.size,_,_,λi j=>cT ((ts.getD i ⟨0,0,0,[]⟩).key) ((ts.getD j ⟨0,0,0,[]⟩).key),rfl,W2,⟨⟨⟨_,av _ rfl,rfl,rfl⟩,pl.isList.at λo e=>af _ e⟩,λt ht=>(Wg t ht).keep (λo e=>af _ e) (λo e=>af _ e)⟩,?_,by rw[aC];omega,?_,λv h' tk hP hk=>?_⟩
 .intro b hb;rw[bP];rcases aX.mp hb with hb|hb
  .simp only[aU,bF,eE] at hb;rcases hb with rfl|rfl
   .exact c_ _
   .exact b8 ie
  .rcases aX.mp hb with hb|hb
   .obtain⟨t,ht,e⟩:=br.mp hb;rw[<-e];exact b8 (gt t ht).1
   .obtain⟨t,ht,e⟩:=br.mp hb;rw[<-e];exact b8 (gt t ht).2
 .intro i j vi vj k s' Q' E' st hi hj hQ;obtain⟨li,rfl⟩:=items i vi hi;obtain⟨lj,rfl⟩:=items j vj hj;have mi:=dD li;have mj:=dD lj;dsimp only at hQ;rw[show ts.getD i ⟨0,0,0,[]⟩=ts[i] by rw[aw,ag li];rfl,show ts.getD j ⟨0,0,0,[]⟩=ts[j] by rw[aw,ag lj];rfl] at hQ;exact x9.lt (st.2 _ mi) (st.2 _ mj) (ok _ mi).2.2 (ok _ mj).2.2 (by have:X.A.in1.units<=X.A.units+8:=(by first|exact ao _|(show X.A.units+_<=_;omega));omega) _ _ _ _ hQ
 .rw[aC,<-hl] at hP;obtain⟨hi,rfl⟩:=items _ v hP;have b:=qL cT mo (λ_ _ _=>iW) (λi=>(ts.getD i ⟨0,0,0,[]⟩).key) (ts.length-1);refine⟨.ref _,H,I.kept (t':=tk) λb o e=>hk b o (λz=>absurd (aG e) (by rw[aK.mp z];exact cD _)) (af _ e),rfl,q _ (dD hi) λu hu=>?_⟩;obtain⟨j,hj,rfl⟩:=mV hu;have:=b.2 j ω;try dsimp only at this
  rw[show ts.getD j ⟨0,0,0,[]⟩=ts[j] by rw[aw,ag hj];rfl] at this;rw[aw,ag hi] at this;exact this
def zV (v d:aq):HO:=.ext λh=>h.get? v=some {cls:=.type "dict_values",data:=.fields #[.ref d]}
def Fb:Kd X "dict.values" (λx vs H Q=>∃d kvs,x=.ref d/\vs=[]/\H d=some (.dK kvs)/\∀v,H v=none->Q (.ref v) (upd H v (zV v d))):=by intro ac s U H x vs v us Q I rx rv h;obtain⟨d,kvs,rfl,rfl,hd,q⟩:=h;cases(show v=Value.ref d from rx);cases rv;obtain⟨z,nm,ws,rel,dd⟩:=wU I.dh hd;refine call_meetsIn PQ dd.typeIs PySem.F.entry_dict_values (PySem.F.args_dict_values_1 _) (meets_dict_values (fi X.prog X.w) d nm) ⟨⟨ws,dd⟩,?_⟩;exact⟨.ref s.heap.objs.size,_,I.laid (t':=s.toks) (o:=zV s.heap.objs.size d) (λb o e=>af _ e) (ao _) ⟨av _ rfl,⟨_,av _ rfl⟩,λh1 h2 e k=>k _ e⟩,rfl,q _ (I.dh.fresh (ao _))⟩
def Fc (hc:X.calm=true):dR X (.builtin "sum") (λxs H Q=>∃(v d:aq) (kvs:List (Key×V)) (ns:List Int),xs=[.ref v]/\H v=some (zV v d)/\H d=some (.dK kvs)/\kvs.map (·.2)=ns.map V.int/\Q (.int (preSum (λi=>ns.getD i 0) ns.length)) H):=by
 intro ac s U H xs us Q I r h;obtain⟨v,d,kvs,ns,rfl,hv,hd,hn,q⟩:=h;obtain⟨u,rfl,rx⟩:=mB r;cases(show u=Value.ref v from rx);obtain⟨gv,_,_⟩:=I.dh v _ hv;obtain⟨z,nm,ws,rel,dd⟩:=wU I.dh hd;obtain⟨ep,UH⟩:=dd.dictAt;have hl:ws.length=ns.length:=by have:=dA List.length hn;rw[ah,ah] at this;rw[<-this];exact rel.length.symm
 refine call_sum_walkG (wpAny_pyIter_values ⟨_,gv,rfl,rfl⟩ UH ?_);refine⟨s.heap.objs.size,_,_,ws.length,_,_,λi=>ns.getD i 0,rfl,Walks.dictValues (A:=X.A.in1) (knd:=fi X.prog X.w) (I.ok.hd hc) _ d (aW UH.lt_size) ws ep,⟨⟨_,av _ rfl,rfl,rfl⟩,UH.push _⟩,?_,?_,λh' tk t' hk=>?_⟩
 .intro b hb;rw[bP];rcases aU.mp hb with e|e
  .rw[e];exact c_ _
  .rw[aK.mp e];exact b8 UH.lt_size
 .rintro i y ⟨k,hx⟩;have hi:i<ws.length:=(aF.mp hx).1;have rl:Paired (λ(p:Key×V) (q:Key×ai)=>p.1=q.1/\RelV p.2 q.2) kvs ws:=rel;have hik:i<kvs.length:=by rw[rel.length];exact hi
  obtain⟨b,h6,h7,h8⟩:=Paired.get' rl (ag hik);rw[hx] at h6;cases h6;have e:(kvs[i]).2=V.int (ns.getD i 0):=by have e2:=dA (λl=>l[i]?) hn;simp only[aR,ag hik,ag (show i<ns.length by omega)] at e2;rw[aw,ag (show i<ns.length by omega)];exact bf e2
  rw[e] at h8;exact h8
 .refine⟨.int _,H,I.kept λb o e=>hk b o (by simpa using aW (aG e)) (af _ e),⟨t',rfl⟩,?_⟩;rw[hl];exact q
section
variable {R:Result->ar->Prop}
end
def Wt (K:Φ):R2:=λx y H Q=>∃(a b:aq) (ss zs:Aab),x=.ref a/\y=.ref b/\iY K H a (ss.map V.str)/\iY K H b (zs.map V.str)/\Q (.bl (mQ ss zs)) H
def LO (hu:X.A.units+64<cLine):gT X (compareOp .Lt) (Wt X.K):=by intro ac s U H x y v u Q I rx ry h;obtain⟨a,b,ss,zs,rfl,rfl,ha,hb,q⟩:=h;cases rx;cases ry;obtain⟨bV,r,pl,hz⟩:=I.tuple ha;obtain⟨jV,r2,OG,hz2⟩:=I.tuple hb;exact rR pl OG (nE (iy r) (iy r2)) ω _ _ _ _ ⟨.bl _,H,I,rfl,q⟩
def uO (kx vx gens scope pos) (env:Env):eval (.DictComp kx vx gens scope pos) env= comprehension (.DictComp kx vx gens scope pos) scope env (firstIterPos gens pos) newDict (firstAsync gens) (firstIter gens env):=rfl
def OK (hc:X.calm=true) (hi:PI X tg iter wi) (S:cY X scope N r) (hg:∀s H fp,PG (X.mD N scope s H fp) tg g) (ht:∀s H fp,C_ (X.mD N scope s H fp) ifs tc) (he:∀s H fp,PE (X.mD N scope s H fp) kx te) (hv:∀s H fp,PE (X.mD N scope s H fp) vx tv) (hs:∀x,foldedSetIterable iter X.env x=pure x:=by intro _;rfl):PE X (.DictComp kx vx [⟨tg,iter,ifs,0⟩] scope pos) (tDC wi r g tc te tv):=by
 intro ac s U H Q I h;rw[uO];have zA:closureFor scope X.env=pure (eY scope X.env):=fO λy hy hk=>I.ok.has y.1 (S.out y hy hk);refine g9 (use:=none) rfl hs zA S.kind S.own ?_;show wpAny _ _ (eval iter X.env) _ _ s;refine dq (hi ac s U H _ I h) λv s1 h1=>dq h1 λQn s2 h2=>?_;obtain⟨it,fp,tn,J,H2,e,I2,T,qb,f2,q2⟩:=h2;subst e;have hD:H2 s2.heap.objs.size=none:=I2.dh.fresh (ao _);obtain⟨W,⟨m0,w0⟩,turn⟩:=q2 _ hD;have mP:∀b∈fp,b<s2.heap.objs.size:=λb hb=>by obtain⟨o,e,_⟩:=T.obj _ _ qb b hb;exact aG e
 refine bS ?_;generalize uc:({s2 with heap:=s2.heap.push {cls:=.type "dict",data:=.dict #[]}}:ar)=s3;have k3:∀b o,s2.heap.get? b=some o->s3.heap.get? b=some o:=λb o e=>by rw[<-uc];exact af _ e
 have z3:s3.heap.objs.size=s2.heap.objs.size+1:=by rw[<-uc];exact bP ..
 have u3:Un (nV X.stack) fp H2 (upd H2 s2.heap.objs.size (.dK [])) s2.heap s3.heap:=Un.laid k3 (ao _) hD;have o3:s3.os=s2.os:=by rw[<-uc]
 have I3:Inv X ac U (upd H2 s2.heap.objs.size (.dK [])) s3:=by rw[<-uc];exact I2.laid (t':=s2.toks) (λb u e=>af _ e) (ao _) (zK s2.heap I2.ZP)
 have f3:∀b∈fp,gn X ac (upd H2 s2.heap.objs.size (.dK [])) b:=λb hb=>⟨by rw[bN (aW (mP b hb))];exact(f2 b hb).1,(f2 b hb).2⟩;refine gS S.jm (by intro y hy;simp at hy) (λh4 xT xU=>?_) S.kind;have k4:∀b o,s3.heap.get? b=some o->h4.get? b=some o:=λb o e=>xU.extBut b o (aW (aG e)) (af _ e);have J4:Inv (X.mD N scope s3 (upd H2 s2.heap.objs.size (.dK [])) fp) [] (r.map (pick U)) (upd H2 s2.heap.objs.size (.dK [])) {s3 with heap:=h4,toks:=s3.toks+([]:List (Str×ai)).length}:=lG S I3 f3 (λb hb=>by rw[z3];exact b8 (mP b hb)) xT k4;have Dd:tn 0 h4:=T.keep _ _ _ qb λb _ o e=>k4 b o (k3 b o e);have kf:∀{H':Hp},(∀b∈fp,H' b=none)->∀b∈fp,gn (X.mD N scope s3 (upd H2 s2.heap.objs.size (.dK [])) fp) [] H' b:=λhn b hb=>
  ⟨hn b hb,(J4.ok.AY b hb).1,J4.ok.rF b hb,.inl hb,(J4.ok.AY b hb).2,λp hp=>absurd (show p∈([]:Aaa) from hp) ς⟩;generalize hY:X.mD N scope s3 (upd H2 s2.heap.objs.size (.dK [])) fp=Y at*;have loop:∀s4:ar,s4={s3 with heap:=h4,toks:=s3.toks+([]:List (Str×ai)).length}-> codeAny (model X.prog X.w) X.A (.compLoop (.DictComp kx vx [⟨tg,iter,ifs,0⟩] scope pos) 0 (.ref it) (.ref s2.heap.objs.size) Y.env) (compPost (model X.prog X.w) X.A X.xe none (EP X ac U Q) (.ref s2.heap.objs.size) s3.heap.objs.size) s4:=by
  rintro s4 rfl;have yp:Y.prog=X.prog:=by rw[<-hY]
  have yw:Y.w=X.w:=by rw[<-hY]
  have yK:Y.K=X.K:=by rw[<-hY]
  have yA:Y.A=X.A:=by rw[<-hY]
  have yc:Y.calm=true:=by rw[<-hY];exact hc
  have Lf:PG Y tg g:=by rw[<-hY];exact hg _ _ _
  have Lg:C_ Y ifs tc:=by rw[<-hY];exact ht _ _ _
  have Lh:PE Y kx te:=by rw[<-hY];exact he _ _ _
  have hvY:PE Y vx tv:=by rw[<-hY];exact hv _ _ _
  have yx:∀e s',¬Y.xe e s':=λe s' z=>by rw[<-hY] at z;exact z
  refine qJ (λn s'=>∃i de H',Inv Y [] de H' s'/\tn i s'.heap/\(∀b∈fp,H' b=none)/\W i n de H') ?_ m0 ⟨0,_,_,J4,Dd,λb hb=>(f3 b hb).1,w0⟩;rintro n s5 ⟨i,ud,H5,I5,yV,AZ,w5⟩;rcases turn i n ud H5 w5 with⟨stop,qn⟩|⟨go,Nn,Mm,Kf,QM,step⟩
  .have d:=T.done Y yp yw yK yc i [] s5 ud H5 (notedBy (model X.prog X.w) X.A Y.env λe s'=>compPost (model X.prog X.w) X.A X.xe none (EP X ac U Q) (.ref s2.heap.objs.size) s3.heap.objs.size (.error e) s') I5 (kf AZ) yV stop;rw[yA] at d;refine dq d λrr s6 fh=>?_;obtain⟨hr,I6⟩:=fh;subst hr;obtain⟨m,hn,_⟩:=id I6.loc;refine⟨m,by rw[<-hY] at hn;exact hn,λh' Hi=>⟨.ref s2.heap.objs.size,H5,?_,rfl,qn⟩⟩;rw[<-hY] at I6;exact qF I2 f2 u3 (by rw[z3];exact dg _) o3 I6 Hi
  .have d:=T.item Y yp yw yK yc i [] s5 ud H5 (notedBy (model X.prog X.w) X.A Y.env λe s'=>compPost (model X.prog X.w) X.A X.xe none (EP X ac U Q) (.ref s2.heap.objs.size) s3.heap.objs.size (.error e) s') I5 (kf AZ) yV go;rw[yA] at d;refine dq d λrr s6 fh=>?_;obtain⟨u,hr,h6⟩:=fh;subst hr;refine dq h6 λ_ s7 fh=>?_;obtain⟨x,H7,I7,r7,y7,xV,Li⟩:=fh;have Lj:=I7.pinned (kf Li) (T.obj _ _ xV);have g7:=Lf _ s7 ud H7 x u _ Lj r7 (step x H7 y7);rw[yp,yw,yA] at g7;refine aN g7 (λ_ s8 fh=>?_) λe s' z=>(yx e s' z).elim;obtain⟨qc,H8,I8,q8⟩:=fh;have t8:=Lg _ s8 qc H8 _ I8 q8;rw[yp,yw,yA] at t8;refine aN t8 (λok s9 fh=>?_) λe s' z=>(yx e s' z).elim;obtain⟨H9,I9,q9⟩:=fh;have again:∀{jW:ar} {og:Hp} {m':Nat},Inv Y ([]++ke fp s7.heap) qc og jW->m'<n->W (i+1) m' qc og->∃m,m<n/\∃i de H',Inv Y [] de H' jW/\tn i jW.heap/\(∀b∈fp,H' b=none)/\W i m de H':=λ{jW og m'} rN hm wK=>by refine⟨m',hm,i+1,qc,og,rN.gf,T.keep _ _ _ xV λb hb o e=>(rN.pin (b,o) (aD _ (aD _ (eK hb e)))).1,λb hb=>?_,wK⟩;obtain⟨o,e,d⟩:=T.obj _ _ xV b hb;exact(rN.pin (b,o) (aD _ (aD _ (eK hb e)))).2.1
   cases ok with
   |false=>rw[aI ς] at q9⊢;obtain⟨m',hm,w9⟩:=Kf _ _ q9;exact again I9 hm w9
   |true=>rw[aJ rfl] at q9⊢;have e9:=Lh _ s9 qc H9 _ I9 q9;rw[yp,yw,yA] at e9;refine aN e9 (λuu jW fh=>?_) λe s' z=>(yx e s' z).elim;obtain⟨y,og,rN,OD,q10⟩:=fh;have V6:=hvY _ jW qc og _ rN q10;rw[yp,yw,yA] at V6;refine aN V6 (λvv De fh=>?_) λe s' z=>(yx e s' z).elim;obtain⟨z,ZK,Hj,r11,hM⟩:=fh;obtain⟨kvs,k,m',ek,Hz,hz,hm,V7⟩:=QM _ _ _ _ hM;subst ek;obtain⟨_,hd,ws,rel,dd⟩:=wU Hj.dh Hz;rw[yp,yw] at dd;refine wpAny_dictSet_pairs (hsz:=by rw[<-rel.length];exact d7 hz) (sF OD) dd λh' Ge QW=>?_;have UE:=qI (t':=De.toks+1) Hj (ob:=.dK (putK kvs k z)) (by rw[Hz];exact True.intro) QW (let⟨q,_,_,hq,_⟩:=Ge;⟨q,hq⟩) (by rw[yp,yw];exact BM (by have:=gQ kvs k z;omega) hd (rel.put k r11) Ge);exact again UE hm V7
 have Lk:Y.env={scope:=relabel scope X.env,locals:=s3.heap.objs.size,globals:=X.env.globals,cells:=eY scope X.env,qual:=X.env.qual,func:=none,code:=X.env.code,frame:=X.env.frame,builtins:=X.env.builtins}:=by rw[<-hY];rfl
 rw[Lk] at loop;exact codeAny_compStart_dict (loop _ rfl) (T.self _ 0 _ _ _ Dd (loop _ rfl))
def BV (h:wpAny (model prog w) A.in1 (pyIter (.ref s.heap.objs.size)) (λit s2=>∃I fp wr n P St bt,it=.ref I/\Walks prog w A.in1 I fp wr n P St/\St 0 s2.heap/\(∀b∈fp,b<s2.heap.objs.size)/\0<n/\LC prog w A.in1 P St bt/\ ∀v h' tk,P (argBest bt (n-1)) v->(∀b o,b∉wr->s2.heap.get? b=some o->h'.get? b=some o)->Q v {s2 with heap:=h',toks:=tk}) E {s with heap:=s.heap.push {cls:=.type "tuple",data:=.seq #[a,b]}}):
  wpAny (model prog w) A (call (.builtin "min") [a,b]) Q E s:=by
 have nm:(toString "min"++toString ".loop":String)="min.loop":=δ;refine Gv F.kind_min Uq Ur (F.args_min2 _ _) ?_;show wpAny _ A.in1 (Builtin.Builtins.bindParams "min" ["key","default"] 0 ⟨[],[]⟩>>=_) _ _ s;refine aa (tU (show Builtin.Builtins.bindParams "min" ["key","default"] 0 ⟨[],[]⟩=pure [none,none] from rfl) ?_);show wpAny _ A.in1 (newTuple [a,b]>>=_) _ _ s;refine aa (bS (aa (aN h (λit s2 h2=>?_) λ_ _ e=>e)));obtain⟨I,fp,wr,n,P,St,bt,rfl,W,st,below,pos,cmp,q⟩:=h2;refine aa (bS ?_);rw[nm];have out:s2.heap.objs.size∉fp:=λhm=>cD _ (below _ hm);refine au ⟨cP cE _,uK W bt cmp s2.heap.objs.size out pos (W.frame _ _ _ st λb _ o e=>af _ e) (av _ rfl) λv h' tk hP hk=>?_⟩;exact q v h' tk hP λb o Wb e=>hk b o Wb (aW (aG e)) (af _ e)
def Rf (prog:aQ) (w:bg) (A:bL) (P:Nat->ai->Prop) (St:Nat->Heap->Prop) (bt:Nat->Nat->Bool):Prop:=∀i j vi vj k (s:ar) (Q:Aaf) (E:Aaf),St k s.heap->P i vi->P j vj->Q (.bool (bt i j)) s->wpAny (model prog w) A (richCompare .Gt vi vj) Q E s
section
variable {R:Result->ar->Prop}{I:aq}{fp wr:List aq}{n:Nat}{P:Nat->ai->Prop}{St:Nat->Heap->Prop}
def Fd (W:Walks prog w A.in1 I fp wr n P St) (bt:Nat->Nat->Bool) (cmp:Rf prog w A.in1 P St bt) (S:aq) (out:S∉fp) (kw:List (Str×ai)):
  ∀(k j:Nat) (s:ar) (vb:ai) (c:Nat),n-(j+1)=k->j+1<=n->St (j+1) s.heap->P (argBest bt j) vb->s.heap.get? S=some {cls:=.type "list",dict:=none,data:=.seq #[vb,vb] c,slots:=#[]}->
  (∀v h' tk,P (argBest bt (n-1)) v->(∀b o,b∉wr->b≠S->s.heap.get? b=some o->h'.get? b=some o)->R (.ok (.ret v)) {s with heap:=h',toks:=tk})->
  codeAny (model prog w) A (.builtin "max.loop" ⟨[.ref I,.none,.ref S],kw⟩) R s:=by
 have away:S∉wr:=λh=>out (W.sub _ h);have nm:(toString "max"++toString ".loop":String)="max.loop":=δ;intro k;induction k with
 |zero=>intro j s vb c hk hj st hb g_ q;have en:j+1=n:=ω;refine cV PR ?_;rw[cq hZ _];show wpAny _ A.in1 (seqItems? (.ref S)>>=_) _ _ s;refine aa (b7 g_ rfl ?_);show wpAny _ A.in1 (tryCatch (pyNext (.ref I)) _>>=_) _ _ s;refine aa (cg (W.done s _ _ (en▸st) λh' tk kp=>?_));show wpAny _ A.in1 (updateSeq S (λ_=>#[])>>=_) _ _ _;refine aa ?_;refine eF (kp S _ away g_) rfl (aa (dX (au ?_)));exact q vb _ tk (by rw[<-en];exact hb) λb o h1 h2 e=>(aV _ _ (eJ h2)).trans (kp b o h1 e)
 |succ k ih=>
  intro j s vb c hk hj st hb g_ q;have lt:j+1<n:=ω;refine cV PR ?_;rw[cq hZ _];show wpAny _ A.in1 (seqItems? (.ref S)>>=_) _ _ s;refine aa (b7 g_ rfl ?_);show wpAny _ A.in1 (tryCatch (pyNext (.ref I)) _>>=_) _ _ s;refine aa (cg (W.item (j+1) s _ _ lt st λv h' tk hP oG kp=>?_));have at2:=kp S _ away g_;show wpAny _ A.in1 (tryCatch (holding [v,v] (richCompare .Gt v vb>>=_)) _>>=_) _ _ _;refine aa (cg (cf (aa (cmp (j+1) (argBest bt j) v vb _ _ _ _ oG hP hb ?_))));refine aa (cf (bB ?_));refine aa (dX (au ?_));cases better:bt (j+1) (argBest bt j) with
  |true=>simp only[jg];refine aa ?_;refine eF at2 rfl (aa (dX ?_));rw[nm];refine au ⟨cP hZ _,ih (j+1) _ v _ ω lt (W.frame _ _ _ oG λb hf o e=>(aV _ _ (λh:S=b=>out (by rw[h];exact hf))).trans e) (by simp only[argBest,better,jg];exact hP) (cF _ at2 rfl) λv' zP nz mG zQ=>?_⟩;exact q v' zP nz mG λb o h1 h2 e=>zQ b o h1 h2 ((aV _ _ (eJ h2)).trans (kp b o h1 e))
  |false=>simp only[cQ,hV];refine aa (dX ?_);rw[nm];refine au ⟨cP hZ _,ih (j+1) _ vb c ω lt oG (by simp only[argBest,better,cQ,hV];exact hb) at2 λv' zP nz mG zQ=>?_⟩;exact q v' zP nz mG λb o h1 h2 e=>zQ b o h1 h2 (kp b o h1 e)
def BW (W:Walks prog w A.in1 I fp wr n P St) (bt:Nat->Nat->Bool) (cmp:Rf prog w A.in1 P St bt) (S:aq) (out:S∉fp) (pos:0<n) (st:St 0 s.heap) (g_:s.heap.get? S=some {cls:=.type "list",dict:=none,data:=.seq #[] c,slots:=#[]}) (q:∀v h' tk,P (argBest bt (n-1)) v->(∀b o,b∉wr->b≠S->s.heap.get? b=some o->h'.get? b=some o)->R (.ok (.ret v)) {s with heap:=h',toks:=tk}):
  codeAny (model prog w) A (.builtin "max.loop" ⟨[.ref I,.none,.ref S],[]⟩) R s:=by
 have away:S∉wr:=λh=>out (W.sub _ h);have nm:(toString "max"++toString ".loop":String)="max.loop":=δ;refine cV PR ?_;rw[cq hZ _];show wpAny _ A.in1 (seqItems? (.ref S)>>=_) _ _ s;refine aa (b7 g_ rfl ?_);show wpAny _ A.in1 (tryCatch (pyNext (.ref I)) _>>=_) _ _ s;refine aa (cg (W.item 0 s _ _ pos st λv h' tk hP oG kp=>?_));have at2:=kp S _ away g_;show wpAny _ A.in1 (updateSeq S (λ_=>#[v,v])>>=_) _ _ _;refine aa ?_;refine eF at2 rfl ?_;rw[nm];refine au ⟨cP hZ _,Fd W bt cmp S out _ _ 0 _ v _ rfl pos (W.frame _ _ _ oG λb hf o e=>(aV _ _ (λh:S=b=>out (by rw[h];exact hf))).trans e) hP (cF _ at2 rfl) λv' zP nz mG zQ=>?_⟩;exact q v' zP nz mG λb o h1 h2 e=>zQ b o h1 h2 ((aV _ _ (eJ h2)).trans (kp b o h1 e))
end
def BX (h:wpAny (model prog w) A.in1 (pyIter (.ref s.heap.objs.size)) (λit s2=>∃I fp wr n P St bt,it=.ref I/\Walks prog w A.in1 I fp wr n P St/\St 0 s2.heap/\(∀b∈fp,b<s2.heap.objs.size)/\0<n/\Rf prog w A.in1 P St bt/\ ∀v h' tk,P (argBest bt (n-1)) v->(∀b o,b∉wr->s2.heap.get? b=some o->h'.get? b=some o)->Q v {s2 with heap:=h',toks:=tk}) E {s with heap:=s.heap.push {cls:=.type "tuple",data:=.seq #[a,b]}}):
  wpAny (model prog w) A (call (.builtin "max") [a,b]) Q E s:=by
 have nm:(toString "max"++toString ".loop":String)="max.loop":=δ;refine Gv F.kind_max F.plain_max F.entry_max (F.args_max2 _ _) ?_;show wpAny _ A.in1 (Builtin.Builtins.bindParams "max" ["key","default"] 0 ⟨[],[]⟩>>=_) _ _ s;refine aa (tU (show Builtin.Builtins.bindParams "max" ["key","default"] 0 ⟨[],[]⟩=pure [none,none] from rfl) ?_);show wpAny _ A.in1 (newTuple [a,b]>>=_) _ _ s;refine aa (bS (aa (aN h (λit s2 h2=>?_) λ_ _ e=>e)));obtain⟨I,fp,wr,n,P,St,bt,rfl,W,st,below,pos,cmp,q⟩:=h2;refine aa (bS ?_);rw[nm];have out:s2.heap.objs.size∉fp:=λhm=>cD _ (below _ hm);refine au ⟨cP hZ _,BW W bt cmp s2.heap.objs.size out pos (W.frame _ _ _ st λb _ o e=>af _ e) (av _ rfl) λv h' tk hP hk=>?_⟩;exact q v h' tk hP λb o Wb e=>hk b o Wb (aW (aG e)) (af _ e)
def BY (hc:X.calm=true):dR X (.builtin "min") (λxs H Q=>∃x y:Str,xs=[.str x,.str y]/\Q (.str (if dH y x=true then y else x)) H):=by
 intro ac s U H xs us Q I r h;obtain⟨x,y,rfl,q⟩:=h;obtain⟨u,u',rfl,⟨t,rfl⟩,⟨t',rfl⟩⟩:=vals2 r;have hT:(s.heap.push {cls:=.type "tuple",data:=.seq #[.str x t,.str y t']}).IsTuple s.heap.objs.size #[.str x t,.str y t']:=⟨_,av _ rfl,rfl,0,rfl⟩;refine BV (gG hT ?_);have z1:(s.heap.push {cls:=.type "tuple",data:=.seq #[.str x t,.str y t']}).objs.size=s.heap.objs.size+1:=bP ..;have W:=Walks.tuple (prog:=X.prog) (w:=X.w) (A:=X.A.in1) (I.ok.hd hc) (s.heap.objs.size+1) s.heap.objs.size (aW (c_ _)) #[.str x t,.str y t'];rw[z1];refine⟨s.heap.objs.size+1,_,_,2,_,_,λi j=>dH ([x,y].getD i x) ([x,y].getD j x),rfl,W,⟨⟨_,by rw[<-z1];exact av _ rfl,rfl,rfl⟩,hT.push _⟩,?_,δ,?_,λv h' tk hP hk=>?_⟩
 .intro b hb;show b<((s.heap.push _).push _).objs.size;rw[bP,z1];simp only[aU,bF,eE] at hb;rcases hb with e|e
  .rw[e];exact c_ _
  .rw[e];exact b8 (c_ _)
 .intro i j vi vj k s' Q' E' st hi hj hQ;have two:∀(i:Nat) (v:ai),(#[Value.str x t,.str y t']:Array ai)[i]?=some v->∃t,v=.str ([x,y].getD i x) t:=λi v e=>by
   match i,e with
   |0,e=>cases e;exact⟨_,rfl⟩
   |1,e=>cases e;exact⟨_,rfl⟩
   |n+2,e=>simp at e
  obtain⟨t1,rfl⟩:=two i vi hi;obtain⟨t2,rfl⟩:=two j vj hj;exact(lt_str hQ:wpAny _ _ (compareOp .Lt _ _) _ _ _)
 .have mG:(#[Value.str x t,.str y t']:Array ai)[argBest (λi j=>dH ([x,y].getD i x) ([x,y].getD j x)) 1]?=some v:=hP;refine⟨.str (if dH y x=true then y else x),H,I.kept (t':=tk) λb o e=>hk b o (λz=>?_) (af _ (af _ e)),?_,q⟩
  .have:=aG e;rw[aK.mp z] at this;exact absurd this (jQ.mpr (dg _))
  .by_cases hb:dH y x=true
   .have e:argBest (λi j=>dH ([x,y].getD i x) ([x,y].getD j x)) 1=1:=by simp[argBest,hb]
    rw[e] at mG;rw[aJ hb];cases mG;exact⟨_,rfl⟩
   .have e:argBest (λi j=>dH ([x,y].getD i x) ([x,y].getD j x)) 1=0:=by simp[argBest,hb]
    rw[e] at mG;rw[aI hb];cases mG;exact⟨_,rfl⟩
def BZ (hc:X.calm=true):dR X (.builtin "max") (λxs H Q=>∃x y:Str,xs=[.str x,.str y]/\Q (.str (if dH x y=true then y else x)) H):=by
 intro ac s U H xs us Q I r h;obtain⟨x,y,rfl,q⟩:=h;obtain⟨u,u',rfl,⟨t,rfl⟩,⟨t',rfl⟩⟩:=vals2 r;have hT:(s.heap.push {cls:=.type "tuple",data:=.seq #[.str x t,.str y t']}).IsTuple s.heap.objs.size #[.str x t,.str y t']:=⟨_,av _ rfl,rfl,0,rfl⟩;refine BX (gG hT ?_);have z1:(s.heap.push {cls:=.type "tuple",data:=.seq #[.str x t,.str y t']}).objs.size=s.heap.objs.size+1:=bP ..;have W:=Walks.tuple (prog:=X.prog) (w:=X.w) (A:=X.A.in1) (I.ok.hd hc) (s.heap.objs.size+1) s.heap.objs.size (aW (c_ _)) #[.str x t,.str y t'];rw[z1];refine⟨s.heap.objs.size+1,_,_,2,_,_,λi j=>dH ([x,y].getD j x) ([x,y].getD i x),rfl,W,⟨⟨_,by rw[<-z1];exact av _ rfl,rfl,rfl⟩,hT.push _⟩,?_,δ,?_,λv h' tk hP hk=>?_⟩
 .intro b hb;show b<((s.heap.push _).push _).objs.size;rw[bP,z1];simp only[aU,bF,eE] at hb;rcases hb with e|e
  .rw[e];exact c_ _
  .rw[e];exact b8 (c_ _)
 .intro i j vi vj k s' Q' E' st hi hj hQ;have two:∀(i:Nat) (v:ai),(#[Value.str x t,.str y t']:Array ai)[i]?=some v->∃t,v=.str ([x,y].getD i x) t:=λi v e=>by
   match i,e with
   |0,e=>cases e;exact⟨_,rfl⟩
   |1,e=>cases e;exact⟨_,rfl⟩
   |n+2,e=>simp at e
  obtain⟨t1,rfl⟩:=two i vi hi;obtain⟨t2,rfl⟩:=two j vj hj;exact(PySem.P.gt_str hQ:wpAny _ _ (compareOp .Gt _ _) _ _ _)
 .have mG:(#[Value.str x t,.str y t']:Array ai)[argBest (λi j=>dH ([x,y].getD j x) ([x,y].getD i x)) 1]?=some v:=hP;refine⟨.str (if dH x y=true then y else x),H,I.kept (t':=tk) λb o e=>hk b o (λz=>?_) (af _ (af _ e)),?_,q⟩
  .have:=aG e;rw[aK.mp z] at this;exact absurd this (jQ.mpr (dg _))
  .by_cases hb:dH x y=true
   .have e:argBest (λi j=>dH ([x,y].getD j x) ([x,y].getD i x)) 1=1:=by simp[argBest,hb]
    rw[e] at mG;rw[aJ hb];cases mG;exact⟨_,rfl⟩
   .have e:argBest (λi j=>dH ([x,y].getD j x) ([x,y].getD i x)) 1=0:=by simp[argBest,hb]
    rw[e] at mG;rw[aI hb];cases mG;exact⟨_,rfl⟩
section
open PySem.W
def Trc (h B:Heap) (e:aq) (cls fl:ai):Prop:=∃oe vs T oT ts,h.get? e=some oe/\oe.cls=cls/\oe.dict=none/\oe.data=.fields vs/\vs[1]?=some (.ref T)/\vs[2]?=some .none/\B.get? T=none/\T≠e/\h.get? T=some oT/\oT.data=.fields ts/\ts[3]?=some fl
structure uP (B:Heap) (l:List Env) (e:aq) (cls fl:ai) (h:Heap):Prop where
 st:B.StaysIn h
 no:B.get? e=none
 fr:h.FunFrames B l
 tr:Trc h B e cls fl
section
variable {M:Model}{B:Heap}{env:Env}{outer:List Env}{L e:aq}{cls fl:ai}{Q:Unit->ar->Prop}
def Dn (HF:A.frames=some (env::outer)) (hl:s.heap.FunFrames B (env::outer)) (hf:env.frame=some L) (he:s.heap.get? e=some oe) (LP:B.StaysIn s.heap) (ZY:B.get? e=none) (QB:oe.dict=none) (hd:oe.data=.fields vs) (h2:vs[2]?=some .none) (q:∀h',uP B (env::outer) e oe.cls (rawInt L) h'->s.heap.UpToSlots h'->Q () {s with heap:=h'}):
  wpAny M A (do let a<-frameOf env;let pl<-entryPlaceOf L had;let b<-EntryCells.newEntry head a .none (rawInt L) .none pl;setField (.ref e) 1 b) Q E s:=by
 have sz:2<vs.size:=(i_.mp h2).1;have Wu:e∉(env::outer).filterMap (·.frame):=by intro z;obtain⟨_,u,hu,nf⟩:=hl.mem z;rw[he] at hu;cases hu;exact nf vs hd
 refine aa (wpAny_frameOf_fun HF hl hf λg so=>aa (wpAny_entryPlaceOf λpl isp=>?_));unfold EntryCells.newEntry newFields;refine aa (bS ?_ (isp.sizeOk5 _ _ _ _ _));generalize hTB:({cls:=.type "traceback",dict:=none,data:=.fields ([head,.ref L,.none,rawInt L,.none]++(if pl.isEmpty then List.replicate 6 Value.none else pl)).toArray}:Obj)=tb;have dTB:tb.data=.fields ([head,.ref L,.none,rawInt L,.none]++(if pl.isEmpty then List.replicate 6 Value.none else pl)).toArray:=by rw[<-hTB]
 have fTB:tb.isFreed=false:=mU dTB;have ge:g.get? e=some oe:=by rw[so.2.1 e Wu];exact he
 have pe:(g.push tb).get? e=some oe:=af tb ge;have Rg:g.objs.size≠e:=λz=>by have:=aG ge;rw[<-z] at this;exact cD _ this
 refine rq pe hd ω (q _ ?_ ?_)
 .have d1:=rA hd (·.setIfInBounds 1 (Value.ref g.objs.size));have gB:B.StaysIn g:=λb o hb=>by rw[so.2.1 b λz=>by rw[(hl.mem z).1] at hb;cases hb];exact LP b o hb
  have keep:∀b o,b≠e->g.get? b=some o->((g.push tb).update e (Obj.mapFields (·.setIfInBounds 1 (Value.ref g.objs.size)))).get? b=some o:=λb o ne hb=>by rw[aV _ _ (eJ ne)];exact af tb hb
  refine⟨λb o hb=>keep b o (λz=>by rw[z,ZY] at hb;cases hb) (gB b o hb),ZY,hl.of_keeps λb o hb nf=>?_,_,_,g.objs.size,tb,_,cF _ pe (mU d1),Obj.cls_mapFields _ _,?_,d1,?_,?_,gB.fresh,Rg,?_,dTB,?_⟩;rotate_left
  .rw[<-QB];obtain⟨_,_,dt,_⟩:=oe;cases dt<;>rfl
  rotate_right
  .obtain⟨sl,hs⟩:=so.2.2 b o hb;exact⟨_,keep b _ (λz=>by rw[z,he] at hb;cases hb;exact nf vs hd) hs,rfl⟩
  .rw[Array.getElem?_setIfInBounds_self];simp only[show 1<vs.size by omega,jg]
  .rw[Array.getElem?_setIfInBounds_ne δ];exact h2
  .rw[aV _ _ (eJ Rg)];exact av g fTB
  .first|(simp;done)|(rcases isp with rfl|⟨_,_,_,_,_,_,_,rfl⟩<;>simp)
 .intro b o hb nf;obtain⟨sl,hs⟩:=so.2.2 b o hb;refine⟨sl,?_⟩;have ne:b≠e:=λz=>by rw[z,he] at hb;cases hb;exact nf vs hd
  rw[aV _ _ (eJ ne)];exact af tb hs
def Fe {h0:Heap}{args:Aad}(HF:A.frames=some (env::outer)) (hf:env.frame=some L) (LP:B.StaysIn h0) (hl:h0.FunFrames B (env::outer)) (mk:Heap.MadeExcOf h0 s.heap e cls args) (q:∀h',uP B (env::outer) e cls (rawInt L) h'->s.heap.UpToSlots h'->Q () {s with heap:=h'}):wpAny M A (noteFrame (.ref e) env) Q E s:=by obtain⟨t,he,_,_⟩:=mk.there;have ZY:B.get? e=none:=fresh_of_stays LP mk.new;unfold noteFrame;simp only[hf];refine aa (dW (x:=Value.none) he rfl rfl ?_);rw[aI δ];exact Dn (oe:={cls:=cls,data:=.fields #[.ref t,.none,.none,.none,.bool false,.none]}) HF (hl.of_keeps λb o hb _=>⟨o,mk.keeps b o hb,rfl⟩) hf he (λb o hb=>mk.keeps b o (LP b o hb)) ZY rfl rfl rfl q
def Dp (HF:A.frames=some (env::outer)) (hf:env.frame=some L) (F:uP B (env::outer) e cls .none s.heap) (q:∀h',uP B (env::outer) e cls (rawInt L) h'->s.heap.UpToSlots h'->Q () {s with heap:=h'}):wpAny M A (noteFrame (.ref e) env) Q E s:=by
 obtain⟨st,no,fr,oe,vs,T,oT,ts,he,hc,QB,hd,v1,v2,tB,Rg,hT,Rh,t3⟩:=F;subst hc;unfold noteFrame;simp only[hf];refine aa (dW he hd v1 ?_);rw[aJ ς];refine aa (dW hT Rh t3 ?_);rw[aI (by simp[rawInt])];refine aa (rq hT Rh (i_.mp t3).1 ?_);generalize hg:s.heap.update T (Obj.mapFields (·.setIfInBounds 3 Value.none))=g;have LQ:∀b,b≠T->g.get? b=s.heap.get? b:=λb nb=>by rw[<-hg];exact aV _ _ (eJ nb)
 have HG:∀b o,s.heap.get? b=some o->(∀ws,o.data≠.fields ws)->b≠T:=λb o hb nf z=>by rw[z,hT] at hb;cases hb;exact nf ts Rh
 have ups:s.heap.UpToSlots g:=λb o hb nf=>⟨o.slots,by rw[LQ b (HG b o hb nf)];exact hb⟩;refine Dn (s:={s with heap:=g}) HF (fr.of_keeps λb o hb nf=>⟨o,by rw[LQ b (HG b o hb nf)];exact hb,rfl⟩) hf (by rw[LQ e Rg.symm];exact he) (λb o hb=>?_) no QB hd v2 λh' F' u=>q h' F' (ups.trans u);rw[LQ b λz=>by rw[z,tB] at hb;cases hb];exact st b o hb
def x_ {l:List Env}(F:uP B l e cls fl s.heap) (q:∀h',uP B l e cls .none h'->s.heap.UpToSlots h'->Q () {s with heap:=h'}):wpAny M A (setFlight (.ref e) none) Q E s:=by
 obtain⟨st,no,fr,oe,vs,T,oT,ts,he,hc,QB,hd,v1,v2,tB,Rg,hT,Rh,t3⟩:=F;have s3:3<ts.size:=(i_.mp t3).1;unfold setFlight;refine aa (dW he hd v1 ?_);rw[aJ ς];refine rq hT Rh s3 ?_;generalize hg:s.heap.update T (Obj.mapFields (·.setIfInBounds 3 ((none:Option aq).elim Value.none λf=>rawInt f)))=g;have LQ:∀b,b≠T->g.get? b=s.heap.get? b:=λb nb=>by rw[<-hg];exact aV _ _ (eJ nb)
 have HG:∀b o,s.heap.get? b=some o->(∀ws,o.data≠.fields ws)->b≠T:=λb o hb nf z=>by rw[z,hT] at hb;cases hb;exact nf ts Rh
 have d3:=rA Rh (·.setIfInBounds 3 ((none:Option aq).elim Value.none λf=>rawInt f));refine q g ⟨λb o hb=>?_,no,fr.of_keeps λb o hb nf=>⟨o,by rw[LQ b (HG b o hb nf)];exact hb,rfl⟩,oe,vs,T,_,_,by rw[LQ e Rg.symm];exact he,hc,QB,hd,v1,v2,tB,Rg,by rw[<-hg];exact cF _ hT (mU d3),d3,?_⟩ (λb o hb nf=>⟨o.slots,by rw[LQ b (HG b o hb nf)];exact hb⟩)
 .rw[LQ b λz=>by rw[z,tB] at hb;cases hb];exact st b o hb
 .simp[s3]
def HH (HF:A.frames=some (env::outer)) (hf:env.frame=some L) (F:uP B (env::outer) e cls .none s.heap) (q:∀h',uP B outer e cls .none h'->s.heap.UpToSlots h'->Q () {s with heap:=h'}):wpAny M A (leaving env (.ref e)) Q E s:=by unfold leaving;refine aa (Dp HF hf F λg G u=>x_ (s:={s with heap:=g}) G λh' G' u'=>q h' ⟨G'.st,G'.no,G'.fr.2.2,G'.tr⟩ (u.trans u'))
def B0 (HF:A.frames=some (env::outer)) (hf:env.frame=some L) (LP:B.StaysIn h0) (hl:h0.FunFrames B (env::outer)) (mk:Heap.MadeExcOf h0 s.heap e cls args) (q:∀h',uP B outer e cls .none h'->s.heap.UpToSlots h'->Q () {s with heap:=h'}):wpAny M A (leaving env (.ref e)) Q E s:=by unfold leaving;refine aa (Fe HF hf LP hl mk λg G u=>x_ (s:={s with heap:=g}) G λh' G' u'=>q h' ⟨G'.st,G'.no,G'.fr.2.2,G'.tr⟩ (u.trans u'))
end
def Fly (l:List Env) (H:Hp) (a:aq) (cls:ai) (h hs:Heap) (Hs:Hp):Prop:=∃B:Heap,uP B l a cls .none h/\(∀b u,H b=some u->∃o,B.get? b=some o)/\ (∀b o,hs.get? b=some o->Hs b=none->b∉nV l->B.get? b=some o)/\∀b o,hs.get? b=some o->b∉nV l->∃o',B.get? b=some o'
def zW {P}{H}(x:fD P w H h a o):∃u,h.get? a=some u:=by
 induction o with
 |lst xs=>obtain⟨_,bV,n,_,e⟩:=x;exact⟨_,e⟩
 |tup xs=>obtain⟨_,bV,_,ob,e,_⟩:=x;exact⟨_,e⟩
 |dK kvs=>obtain⟨_,_,vs,_,ob,es,ep,e,_⟩:=x;exact⟨_,e⟩
 |dT kvs=>obtain⟨_,_,xs,_,ob,es,ep,e,_⟩:=x;exact⟨_,e⟩
 |set S n=>obtain⟨ob,es,ep,t,e,_⟩:=x;exact⟨_,e⟩
 |ins C dx fs=>obtain⟨_,_,_,e,_⟩:=x;exact⟨_,e⟩
 |own y=>exact x
 |xd fs=>obtain⟨mA,⟨od,es,ep,e,_⟩,_⟩:=x;exact⟨_,e⟩
 |ZF lo hi=>obtain⟨t,u,v,e⟩:=x;exact⟨_,e⟩
 |Bj ob u ih=>exact⟨_,x.1⟩
 |jT ps=>exact⟨_,(show h.get? a=some _ from x)⟩
 |met f y=>exact⟨_,(show h.get? a=some _ from x)⟩
 |ext φ=>exact x.2.1
def yd (P:aQ) (w:bg):CY:=λouter H s E e s'=>∃a cls H',e=.ref a/\s'.os=s.os/\AllBare s'.gens/\Un (nV outer) [] H H' s.heap s'.heap/\nU P w H' s'.heap/\E cls none H'/\Fly outer H' a cls s'.heap s.heap H
def Inv.zX {B h':Heap}(I:Inv X ac U H s) (kB:B.StaysIn s.heap) (ZZ:B.StaysIn h') (ups:s.heap.UpToSlots h') (wq:∀b u,H b=some u->∃o,B.get? b=some o) (hp:∀p∈X.pn++ac,B.get? p.1=some p.2) (o1:∀b o,X.iO.heap.get? b=some o->X.y_ b=none->b∉X.fs->b∉X.ex->B.get? b=some o) (o2:∀b o,X.iO.heap.get? b=some o->b∉X.fs->b∉X.ex->∃o',B.get? b=some o'):
  Inv X ac U H {s with heap:=h'}:=by
 have fr:∀b,b∈X.fs->∃o,s.heap.get? b=some o/\∃sl,h'.get? b=some {o with slots:=sl}:=λb hb=>by obtain⟨_,o,ho,hnf⟩:=I.lY.mem hb;exact⟨o,ho,ups b o ho hnf⟩
 refine⟨I.ok,I.os,I.bare,⟨λb o q n hb hx=>ZZ b o (o1 b o q n hb hx),λb o q n hb hx=>?_,I.base.free,λb o q hx=>?_,I.base.rE,I.base.qr,I.base.pH⟩,?_,λx c e=>?_,I.free,I.jL,λp hq=>?_,λa o e=>?_,I.len⟩
 .obtain⟨sl,e1⟩:=I.base.slot b o q n hb hx;obtain⟨o',e2,qz,e3⟩:=fr b hb;rw[e1] at e2;cases e2;exact⟨qz,e3⟩
 .by_cases hb:b∈X.fs
  .obtain⟨o',_,sl,e⟩:=fr b hb;exact⟨_,e⟩
  .obtain⟨o',e⟩:=o2 b o q hb hx;exact⟨o',ZZ _ _ e⟩
 .obtain⟨m,hn,hl⟩:=I.loc;refine⟨m,ups.ns hn,λi x v e1 e2 e3=>?_⟩;obtain⟨u,r,lk⟩:=hl i x v e1 e2 e3;refine⟨u,r,?_⟩;rcases lk with lk|⟨lk,c,ec,oc,hc,hd⟩
  .exact .inl lk
  .obtain⟨sl,es⟩:=ups c oc hc λvs z=>by rw[hd] at z;cases z
   exact .inr ⟨lk,c,ec,_,es,hd⟩
 .obtain⟨v,oc,hc,hd⟩:=I.cell x c e;obtain⟨sl,es⟩:=ups c oc hc λvs z=>by rw[hd] at z;cases z
  exact⟨v,_,es,hd⟩
 .obtain⟨_,p2⟩:=I.pin p hq;exact⟨ZZ _ _ (hp p hq),p2⟩
 .refine(I.dh a o e).vP (λb u hb eu=>?_) (λ_ z=>z) (λ_ _ z=>z);have ht:∃u',H b=some u':=by
   rcases hb with rfl|hb
   .exact⟨_,e⟩
   .exact⟨_,hb⟩
  obtain⟨u',ht⟩:=ht;obtain⟨o',wt⟩:=wq b u' ht;have:=kB _ _ wt;rw[eu] at this;cases this;exact ZZ _ _ wt
structure OL (X:Cx) (ac:Aaa) (H:Hp) (a:aq) (cls:ai) (h:Heap):Prop where
 ex:∃B:Heap,uP B X.stack a cls .none h/\(∀b u,H b=some u->∃o,B.get? b=some o)/\(∀p∈X.pn++ac,B.get? p.1=some p.2)/\ (∀b o,X.iO.heap.get? b=some o->X.y_ b=none->b∉X.fs->b∉X.ex->B.get? b=some o)/\∀b o,X.iO.heap.get? b=some o->b∉X.fs->b∉X.ex->∃o',B.get? b=some o'
def Inv.wJ (I:Inv X ac U H s) (q:X.iO.heap.get? b=some o) (hb:b∉X.fs):b∉nV X.stack:=λz=>by
 rcases aU.mp (I.rG b z) with e|e
 .have h1:=aG q;rw[e] at h1;exact absurd h1 (jQ.mpr I.ok.above)
 .exact hb e
def Inv.OM {H':Hp}{a:aq}{cls:ai}{s':ar}(I:Inv X ac U H s) (F:Fly X.stack H' a cls s'.heap s.heap H):OL X ac H' a cls s'.heap:=by
 obtain⟨B,Ki,wq,o1,o2⟩:=F;refine⟨B,Ki,wq,λp hp=>?_,λb o q n hb hx=>?_,λb o q hb hx=>?_⟩
 .obtain⟨p1,p2,p3,p4,_⟩:=I.pin p hp;exact o1 _ _ p1 p2 λz=>(aU.mp (I.rG _ z)).elim p3 p4
 .exact o1 b o (I.base.keep b o q n hb hx) (I.base.free b o q n hx) (I.wJ q hb)
 .obtain⟨o',e⟩:=I.base.there b o q hx;exact o2 b o' e (I.wJ q hb)
def Ff (X:Cx) (W:ai->St->Hp->Prop):Prop:=∀(ac:Aaa) (U:St) (H:Hp) (s:ar) (e:ai) (s':ar),Inv X ac U H s->yd X.prog X.w X.stack H s (λcls _ H'=>W cls U H') e s'->X.xe e s'
def Makes (X:Cx) (W:ai->St->Hp->Prop):Prop:=∀(ac:Aaa) (U:St) (H:Hp) (s:ar) (h':Heap) (e:aq) (cls:ai) (vs:Aad),Inv X ac U H s->Heap.MadeExcOf s.heap h' e cls vs->W cls U H->X.xe (.ref e) {s with heap:=h'}
section
variable {N:Aab}{qual:Str}{scope:Scope}{f:aq}{cd:ai}{outer:List Env}{E:XK}
def Ww:Ff (jC (yd P w) P w K mg base N qual scope f cd A outer s H E) (λcls _ H'=>E cls none H'):=by rintro ac U H1 s1 e s' I ⟨a,cls,H',rfl,os,bare,un,dh,q,F⟩;have J:=I.Gz os un dh bare (λb z=>absurd z ς);obtain⟨B,Ki,wq,hp,o1,o2⟩:=(I.OM F).ex;show wpAny _ _ (leaving _ (.ref a)) _ _ s';refine HH I.ok.frames rfl Ki λh' x1 x2=>?_;have J':=J.zX Ki.st x1.st x2 wq hp o1 o2;exact⟨a,cls,H',rfl,J'.os,J'.bare,J'.base,J'.dh,q,B,x1,wq,λb o q n hb=>o1 b o q n hb (by intro z;cases z),λb o q hb=>o2 b o q hb (by intro z;cases z)⟩
def Ri:Makes (jC (yd P w) P w K mg base N qual scope f cd A outer s H E) (λcls _ H'=>E cls none H'):=by
 intro ac U H1 s1 h1 e cls vs I hx q;have vB:∀env∈(jC (yd P w) P w K mg base N qual scope f cd A outer s H E).stack,∀a,env.frame=some a->a∈nV (jC (yd P w) P w K mg base N qual scope f cd A outer s H E).stack:=λenv he a hf=>di.mpr ⟨env,he,hf⟩;show wpAny _ _ (leaving _ (.ref e)) _ _ _;refine B0 (B:=hideAll s1.heap (nV (jC (yd P w) P w K mg base N qual scope f cd A outer s H E).stack)) (h0:=s1.heap) I.ok.frames rfl (λb o q=>of_hideAll _ q) (funFrames_hide I.stack vB) hx λh' x1 x4=>?_;have kB:(hideAll s1.heap (nV (jC (yd P w) P w K mg base N qual scope f cd A outer s H E).stack)).StaysIn h1:=λb o q=>hx.keeps _ _ (of_hideAll _ q);have I1:Inv _ ac U H1 {s1 with heap:=h1}:=I.kept (t':=s1.toks) λb o e=>hx.keeps b o e;have wq:∀b u,H1 b=some u->∃o,(hideAll s1.heap (nV (jC (yd P w) P w K mg base N qual scope f cd A outer s H E).stack)).get? b=some o:=λb u e=>by
  have hb:=(I.dh b u e).lt;cases g:s1.heap.get? b with
  |none=>exact absurd g (by obtain⟨o,ho⟩:=zW (I.dh b u e);rw[ho];simp)
  |some o=>exact⟨o,hideAll_get _ g λz=>by rw[I.xF b z] at e;cases e⟩
 have hp:∀p∈[]++ac,(hideAll s1.heap (nV (jC (yd P w) P w K mg base N qual scope f cd A outer s H E).stack)).get? p.1=some p.2:=λp hq=>by obtain⟨p1,p2,p3,p4,_⟩:=I.pin p hq;exact hideAll_get _ p1 λz=>(aU.mp (I.rG _ z)).elim p3 p4
 have o1:∀b o,s.heap.get? b=some o->H b=none->b∉nV outer->b∉([]:List aq)->(hideAll s1.heap (nV (jC (yd P w) P w K mg base N qual scope f cd A outer s H E).stack)).get? b=some o:=λb o q n hb hx=>hideAll_get _ (I.base.keep b o q n hb hx) (I.wJ q hb);have o2:∀b o,s.heap.get? b=some o->b∉nV outer->b∉([]:List aq)->∃o',(hideAll s1.heap (nV (jC (yd P w) P w K mg base N qual scope f cd A outer s H E).stack)).get? b=some o':=λb o q hb hx=>by obtain⟨o',e⟩:=I.base.there b o q hx;exact⟨o',hideAll_get _ e (I.wJ q hb)⟩
 have J':=I1.zX kB x1.st x4 wq hp o1 o2;exact⟨e,cls,H1,rfl,J'.os,J'.bare,J'.base,J'.dh,q,_,x1,wq,λb o q n hb=>o1 b o q n hb (by intro z;cases z),λb o q hb=>o2 b o q hb (by intro z;cases z)⟩
end
abbrev Rj:Aad:=[.type "ValueError",.type "Exception",.type "BaseException",.type "object"]
structure LR (K:Φ) (mg:Aae) (x:Str) (C:aq):Prop where
 at':mg x=some (.ref C)
 is:excIn K C Rj "ValueError.__new__"=true
def LR.own {K:Φ} (O:LR K mg x C) (sk:K.In h):OwnCls x C Rj "ValueError.__new__" mg h:=by
 have q:=O.is;refine⟨O.at',?_⟩;unfold excIn at q;split at q;case h_2=>exact absurd q δ
 case h_1 d0 c0 s0 look=>
  split at q;case h_2=>exact absurd q δ
  case h_1 C1 tl a0 a1 a2 a3 nw a5 em es=>rcases c0 with⟨c1,c2,c3,c4,c5,c6,c7,c8,c9,c10,c11⟩;rcases s0 with⟨sl⟩;simp only[cA,k_,Bool.not_eq_true'] at q;obtain⟨⟨⟨⟨⟨g1,g2⟩,g3⟩,g4⟩,g5⟩,g6⟩:=q;dsimp only at em es g3 g5 g6;subst g1 g2 g3 em es;exact⟨tl,c4,c1,c5,c2,c6,c7,c8,c9,c10,d0,a0,a1,a2,a3,a5,h.nsMap c4,sk _ _ look,.of_isNs (isNs_of_in sk g5),nsMap_none_of_in sk g5 g6,tail_of_in sk g4⟩
section
variable {W:ai->St->Hp->Prop}
def Rk (W:ai->St->Hp->Prop) (cls:ai) (t:TA):TS:=λ_ U H=>t U H λvs H1=>vs.length<=sizeLine/\W cls U H1
def HI (hM:Makes X W) (hc:X.calm=true) (O:LR X.K X.mg x C) (hg:Gl X x) (ha:PA X (e::es) t) (s_:(x==("__debug__":Str))=false:=by decide) (he:starEach (e::es) X.env=(false,eval e X.env)::starEach es X.env:=by rfl) (sC:(backTo iH (starEach es X.env)).any (·.1)=false:=by rfl):
  PS X (.Raise (some (.Call (.Name x np) (e::es) [] iH)) none pos) (Rk W (.ref C) t):=by
 intro ac s U H D I h;have OB:=O.own I.ok.mod.sk;obtain⟨tl,N,nm,q,bs,hdct,sn,sub,ab,col,dd,k0,k1,k2,k3,k5,mN,hC,hN,hni,T⟩:=OB.obj;refine wpAny_Raise_call_subT (C:=C) (nm:=nm) (q:=q) (N:=N) (bs:=bs) (bm:=tl) (hdct:=hdct) (sn:=sn) (sub:=sub) (ab:=ab) (col:=col) (dd:=dd) (k0:=k0) (k1:=k1) (k2:=k2) (k3:=k3) (k5:=k5) KG (mN:=mN) (T.hasType KG.hasBase) (I.ok.hd hc) (by rw[he];show(false||(backTo iH (starEach es X.env)).any (·.1))=false;rw[sC];rfl) hni (lZ I hg O.at' ⟨rfl,?_⟩ s_);have h2:=ha iH ac s U H _ I h;rw[he] at h2⊢;refine Ba (aN h2 (λvs jB ⟨xs,H1,I1,r,z,q⟩=>⟨rfl,by rw[<-r.length];exact z,I1.bk _ _ hC,hN.keeps I1.bk,T.keeps I1.bk,λh' e' mk=>?_⟩) λ_ _ y=>y);exact hM ac U H1 jB h' e' (.ref C) vs I1 mk q
def LS {CX:CY}{k:Nat}{f:aq}{fd:FuncData}{ps:Aab}{sp:Sp}{ds:Aad}{t_:Aac}{ac:Aaa}{U:St}{H:Hp}{s:ar}{Q:VK}{us:Aad}{vs:Aac}(F:cG X.prog X.w X.K X.mg X.base (yd X.prog X.w) k f fd ps sp) (hr:eS k X.A) (hb:Binds X.K fd ps ds) (hd:cx t_ ds) (hL:Ff X W) (I:Inv X ac U H s) (r:cx vs us) (h:sp (vs++t_) H Q (λcls _ H'=>W cls U H')):wpAny (model X.prog X.w) X.A (call (.ref f) us) (EP X ac U Q) X.xe s:=by
 have r2:cx (vs++t_) (us++ds):=r.append hd;have hl:(us++ds).length=ps.length:=by rw[<-r2.length];exact F.len _ _ _ _ h
 refine m7 (iM (F.run X.A X.stack s H ⟨us,[]⟩ (us++ds) (vs++t_) Q _ hr I.EG (hb s us I.pJ hl) r2 h) λr s' hq=>?_);cases r with
 |error e=>exact hL ac U H s e s' I hq
 |ok fl=>
  cases fl with
  |ret u=>exact I.after hq
  |next=>exact False.elim hq
  |brk=>exact False.elim hq
  |cont=>exact False.elim hq
def B3 (sp:Sp) (t_:Aac) (W:ai->St->Hp->Prop) (t:TA):TE:=λU H Q=>t U H λvs H1=>sp (vs++t_) H1 Q λcls _ H'=>W cls U H'
def HJ (F:cG X.prog X.w X.K X.mg X.base (yd X.prog X.w) k f fd ps sp) (hr:eS k X.A) (hg:Gl X x) (hm:X.mg x=some (.ref f)) (hk:PySem.W.keepIn X.K (.ref f)=true) (hb:Binds X.K fd ps ds) (hd:cx t_ ds) (hL:Ff X W) (ha:PA X (e::es) t) (s_:(x==("__debug__":Str))=false:=by decide) (he:starEach (e::es) X.env=(false,eval e X.env)::starEach es X.env:=by rfl) (sC:(backTo pos (starEach es X.env)).any (·.1)=false:=by rfl):
  PE X (.Call (.Name x p) (e::es) [] pos) (B3 sp t_ W t):=by
 intro ac s U H Q I h;refine eX (lZ I hg hm ?_ s_);refine oz (h₀:=X.base) I.ok.mod.sk hk (dq (ha pos ac s U H _ I h) λus s1 fh=>?_) he sC;obtain⟨vs,H1,I1,r,q⟩:=fh;refine⟨I1.pJ,?_⟩;exact LS (CX:=fK) F hr hb hd hL I1 r q
def PS.Bk {st:Stmt}{t:TS}(h:PS X.Bk st t):PS X st t:=λac s U H D I hw=>
 aN (h ac s U H D (I.uw _) hw) (λ_ _ q=>q.md) λ_ _ z=>False.elim z
end
def gX.okX {P:aQ}{w:bg}{K:Φ}{mg:Aae}{base:Heap}{x qual:Str}{st:Stmt}{f:aq}{fd:FuncData}{N ps:Aab}{k:Nat}{sp:Sp}(F:gX K x qual st f fd) (S:bx N ps (aP st)) (len:∀vs H Q E,sp vs H Q E->vs.length=ps.length) (iS:∀(eU:ai) (A:bL) (outer:List Env) (s:ar) (H:Hp) (vs:Aac) (Q:VK) (E:XK),eS k (A.deeper (envOfC qual (aP st) s.heap.objs.size f eU))->sp vs H Q E-> ∃t,su (jC (yd P w) P w K mg base N qual (aP st) f eU A outer s H E) (eC st) t/\t {nx:=λ_ H'=>Q .e_ H',rt:=Q} (start N vs) H):cG P w K mg base (yd P w) (k+1) f fd ps sp:=by obtain⟨oc,od,kV,doc,pm,an,eU,ct,qy,rfl,lk,mX⟩:=F.ex;exact C3 lk mX S len λA outer s H vs Q E hr C4=>iS eU A outer s H vs Q E hr C4
abbrev Cx.B4 (X:Cx) (ac:Aaa) (W:ai->St->Hp->Prop):Cx:={X with pn:=X.pn++ac,xe:=λe s'=>∃a cls U H',e=.ref a/\Inv X ac U H' s'/\OL X ac H' a cls s'.heap/\W cls U H'}
abbrev Cx.OO (X:Cx) (a:aq):Cx:={X with A:=X.A.mark (some (.ref a)),calm:=false,xe:=λ_ _=>False}
section
variable {W:ai->St->Hp->Prop}
def Inv.B4 (I:Inv X ac U H s) (W:ai->St->Hp->Prop):Inv (X.B4 ac W) [] U H s:=⟨⟨I.ok.mod,I.ok.kind,I.ok.glob,I.ok.blt,I.ok.above,I.ok.inj,I.ok.has,I.ok.KP,I.ok.hd,I.ok.frames,I.ok.Om,I.ok.AY,I.ok.bs,I.ok.CM,I.ok.xE,I.ok.rF,I.ok.lY,I.ok.Ez⟩,I.os,I.bare,I.base,I.loc,I.cell,I.free,I.jL,λp hp=>I.pin p (by simpa using hp),I.dh,I.len⟩
def Inv.uQ (I:Inv (X.B4 ac W) gM U H s):Inv X ac U H s:=⟨⟨I.ok.mod,I.ok.kind,I.ok.glob,I.ok.blt,I.ok.above,I.ok.inj,I.ok.has,I.ok.KP,I.ok.hd,I.ok.frames,I.ok.Om,I.ok.AY,I.ok.bs,I.ok.CM,I.ok.xE,I.ok.rF,I.ok.lY,I.ok.Ez⟩,I.os,I.bare,I.base,I.loc,I.cell,I.free,I.jL,λp hp=>I.pin p (bh _ hp),I.dh,I.len⟩
def Inv.OO (I:Inv X ac U H s) (a:aq):Inv (X.OO a) ac U H s:=⟨⟨I.ok.mod,I.ok.kind,I.ok.glob,I.ok.blt,I.ok.above,I.ok.inj,I.ok.has,I.ok.KP,(λz=>nomatch z),I.ok.frames,I.ok.Om,I.ok.AY,I.ok.bs,I.ok.CM,I.ok.xE,I.ok.rF,I.ok.lY,I.ok.Ez⟩,I.os,I.bare,I.base,I.loc,I.cell,I.free,I.jL,I.pin,I.dh,I.len⟩
def Inv.Wx (c:X.calm=true->X.A.handled=none) (f:X.A.frames=some X.stack) (I:Inv (X.OO a) ac U H s):Inv X ac U H s:=⟨⟨I.ok.mod,I.ok.kind,I.ok.glob,I.ok.blt,I.ok.above,I.ok.inj,I.ok.has,I.ok.KP,c,f,I.ok.Om,I.ok.AY,I.ok.bs,I.ok.CM,I.ok.xE,I.ok.rF,I.ok.lY,I.ok.Ez⟩,I.os,I.bare,I.base,I.loc,I.cell,I.free,I.jL,I.pin,I.dh,I.len⟩
def SP.uQ (h:SP (X.B4 ac W) gM D f s'):SP X ac D f s':=by
 cases f with
 |next=>obtain⟨de,H',I,q⟩:=h;exact⟨de,H',I.uQ,q⟩
 |brk=>obtain⟨de,H',I,q⟩:=h;exact⟨de,H',I.uQ,q⟩
 |cont=>obtain⟨de,H',I,q⟩:=h;exact⟨de,H',I.uQ,q⟩
 |ret u=>obtain⟨v,de,H',I,r,q⟩:=h;exact⟨v,de,H',I.uQ,r,q⟩
def Wy:Ff (X.B4 ac W) W:=by rintro gM U H s e s' I ⟨a,cls,H',rfl,os,bare,un,dh,q,F⟩;have J:=I.Gz os un dh bare (λb z=>absurd z ς);obtain⟨B,Ki,wq,hp,o1,o2⟩:=(I.OM F).ex;exact⟨a,cls,U,H',rfl,J.uQ,⟨B,Ki,wq,λp h=>hp p (bh _ h),o1,o2⟩,q⟩
end
section
variable {R:Result->ar->Prop}
end
section
variable {R:Result->ar->Prop}
end
section
variable {H H':Hp}{h':Heap}
end
structure oM (lt:Nat->Nat->Bool):Prop where
 as:∀a b,lt a b=true->lt b a=false
 tr:∀a b c,lt b a=false->lt c b=false->lt c a=false
def oM.ir (O:oM lt) (a:Nat):lt a a=false:=by
 cases e:lt a a with
 |false=>rfl
 |true=>have:=O.as a a e;rw[e] at this;cases this
def pat (p:Array Nat) (k:Nat):Nat:=p.getD k 0
def qN (h:p[i]?=q[j]?):pat p i=pat q j:=by unfold pat;rw[iJ,iJ,h]
def mq (hj:j<=p.size) (k:Nat):pat (kas_rev p i j) k=if i<=k/\k<j then pat p (i+j-1-k) else pat p k:=by
 have e:=getElem?_mirror_all (i:=i) hj k;by_cases h:i<=k/\k<j
 .rw[aJ h] at e⊢;exact qN e
 .rw[aI h] at e⊢;exact qN e
def LU (hs:src<p.size) (hd:d<=src) (k:Nat):pat (bubble p src d) k=if k=src-d then pat p src else if src-d<k/\k<=src then pat p (k-1) else pat p k:=by
 have e:=getElem?_bubble hs d hd k;by_cases h1:k=src-d
 .rw[aJ h1] at e⊢;exact qN e
 .rw[aI h1] at e⊢;by_cases h2:src-d<k/\k<=src
  .rw[aJ h2] at e⊢;exact qN e
  .rw[aI h2] at e⊢;exact qN e
def rS (n:Nat) (p:Array Nat):Prop:=p.toList.Perm (List.range n)
def rS.size (h:rS n p):p.size=n:=by have:=h.length_eq;rwa[p_,eG] at this
def rS.lt (h:rS n p) (hk:k<n):pat p k<n:=by
 have LV:k<p.size:=by rw[h.size];exact hk
 have e:pat p k=p[k]:=by unfold pat;rw[iJ,getElem?_pos p k LV];rfl
 rw[e];exact ou.mp (h.mem_iff.mp (Array.mem_toList_iff.mpr (Array.getElem_mem LV)))
def rS.rev (h:rS n p) (i j:Nat):rS n (kas_rev p i j):=(KH.mp (mirror_perm p i j _)).trans h
def rS.bub (h:rS n p) (i d:Nat):rS n (bubble p i d):=(KH.mp (bubble_perm p i d)).trans h
section
variable {n:Nat}{lt:Nat->Nat->Bool}{cmp:Nat->Nat->(Bool->ar->Prop)->ar->Prop}{I:ar->Prop}
def B5 (lt:Nat->Nat->Bool) (p:Array Nat) (k:Nat):Prop:=∀i j,i<=j->j<k->lt (pat p j) (pat p i)=false
def Kj (lt:Nat->Nat->Bool) (p:Array Nat) (k:Nat):Prop:=∀i j,i<=j->j<k->lt (pat p i) (pat p j)=false
def Wz (lt:Nat->Nat->Bool) (p:Array Nat) (a b:Nat):Prop:=∀i j,a<=i->i<b->a<=j->j<b->lt (pat p i) (pat p j)=false
def LW (n:Nat) (lt:Nat->Nat->Bool) (cmp:Nat->Nat->(Bool->ar->Prop)->ar->Prop) (I:ar->Prop):Prop:=∀i j,i<n->j<n->∀(C:Bool->ar->Prop) s,I s->(∀s',I s'->C (lt i j) s')->cmp i j C s
def q1 (h:a+(f+1)<=n):a<n:=aT (Nat.lt_add_of_pos_right (Nat.succ_pos f)) h
def q2 (h:a+(f+1)<=n):a-1<n:=bU (Ky a 1) (q1 h)
def q3 (h:a+(f+1)<=n):a+1+f<=n:=aB (el (Bc a f)) h
def q0 (h:n<=a+1+f):n<=a+(f+1):=aB h (el (Bc a f))
def q4 (h:a<=i/\i<b):a<=a+b-1-i:=Nat.le_sub_of_add_le (Nat.le_sub_of_add_le (xy h.2 a))
def q5 (h:a<=i/\i<b):a+b-1-i<b:=ω
def q8 (h1:a<=i) (h2:i<a+1) (h3:a<=j) (h4:j<a+1):i=j:=tW (aB (cN h2) h3) (aB (cN h4) h1)
def q9 (oE:i<=j) (hj:j<1):i=j:=tW oE (aB (cN hj) (bH i))
def Wr (c:m<j/\j<=k):j-1<k:=aT (y3 (bU (bH m) c.1) Nat.one_pos) c.2
def qh (h:¬l>=r) (h2:r<=k) (h3:r-l<=f+1):l<=(l+r)/2/\(l+r)/2<r/\(l+r)/2<k/\(l+r)/2-l<=f/\r-((l+r)/2+1)<=f:=by have hl:=Nat.lt_of_not_le h;have g1:l<=(l+r)/2:=(Nat.le_div_iff_mul_le δ).mpr (by rw[Nat.mul_two];exact xy (d7 hl) l);have g2:(l+r)/2<r:=(Nat.div_lt_iff_lt_mul δ).mpr (by rw[Nat.mul_two];exact Nat.add_lt_add_right hl r);exact⟨g1,g2,aT g2 h2,cN (aT (Nat.sub_lt_sub_right g1 g2) h3),aB (xC (rp g1) r) (by show r-l-1<=f+1-1;exact Nat.sub_le_sub_right h3 1)⟩
def LX (O:oM lt) (h1:1<=k) (h:B5 lt p k) (hk:lt (pat p k) (pat p (k-1))=false):B5 lt p (k+1):=by
 intro i j oE hj;by_cases e:j=k
 .subst e;by_cases e2:i=j
  .subst e2;exact O.ir _
  .exact O.tr _ (pat p (j-1)) _ (h i (j-1) (jb (dj oE e2)) (y3 h1 Nat.one_pos)) hk
 .exact h i j oE (dj (cN hj) e)
def qO (O:oM lt) (h1:1<=k) (h:Kj lt p k) (hk:lt (pat p (k-1)) (pat p k)=false):Kj lt p (k+1):=by
 intro i j oE hj;by_cases e:j=k
 .subst e;by_cases e2:i=j
  .subst e2;exact O.ir _
  .exact O.tr _ (pat p (j-1)) _ hk (h i (j-1) (jb (dj oE e2)) (y3 h1 Nat.one_pos))
 .exact h i j oE (dj (cN hj) e)
def B6 (O:oM lt) (hc:LW n lt cmp I) (hp:rS n p):∀(f a:Nat) {Q:Nat->ar->Prop}{s:ar},1<=a->a+f<=n->B5 lt p a->I s-> (∀m s',I s'->a<=m->m<=a+f->B5 lt p m->(m<a+f->lt (pat p m) (pat p (m-1))=true)->Q m s')->(kas_asc p f a).kasWp cmp Q s
 |0,a,Q,s,h1,ha,so,hi,q=>q a s hi (ao _) (ao _) so (λh=>absurd h (cD _))
 |f+1,a,Q,s,h1,ha,so,hi,q=>by
  show cmp (pat p a) (pat p (a-1)) _ s;refine hc _ _ (hp.lt (q1 ha)) (hp.lt (q2 ha)) _ s hi λs' Dq=>?_;cases e:lt (pat p a) (pat p (a-1)) with
  |true=>exact q a s' Dq (ao _) (fZ _ _) so (λ_=>e)
  |false=>exact B6 O hc hp f (a+1) (gE 1 a) (q3 ha) (LX O h1 so e) Dq λm s2 i2 l1 l2 s3 l3=>q m s2 i2 (iK l1) (q0 l2) s3 (λh=>l3 (aT h (el (Bc a f).symm)))
def B7 (O:oM lt) (k a b:Nat) (hb:b<=p.size) (w:Kj lt p k) (e:Wz lt p a b) (hbk:b<=k):Kj lt (kas_rev p a b) k:=by
 intro i j oE hj;rw[mq hb,mq hb];by_cases h1:a<=i/\i<b
 .rw[aJ h1];by_cases h2:a<=j/\j<b
  .rw[aJ h2];exact e _ _ (q4 h1) (q5 h1) (q4 h2) (q5 h2)
  .rw[aI h2];exact w _ _ (aB (d7 (q5 h1)) (Er λz=>h2 ⟨aB h1.1 oE,z⟩)) hj
 .rw[aI h1];by_cases h2:a<=j/\j<b
  .rw[aJ h2];exact w _ _ (aB (Nat.le_of_not_le λz=>h1 ⟨z,bU oE h2.2⟩) (q4 h2)) (aT (q5 h2) hbk)
  .rw[aI h2];exact w _ _ oE hj
def sI (hb:b<=p.size) (h:b<=k):pat (kas_rev p a b) k=pat p k:=by rw[mq hb,aI λz=>Nat.not_lt_of_le h z.2]
def ug (O:oM lt) (hc:LW n lt cmp I):∀(f:Nat) (p:Array Nat) (a q:Nat) {Q:Array Nat×Nat×Nat->ar->Prop}{s:ar},rS n p->q+1<=a->a+f<=n->Kj lt p a->Wz lt p (a-(q+1)) a->I s-> (∀p' m q' s',I s'->rS n p'->a<=m->m<=a+f->q'+1<=m->Kj lt p' m->Wz lt p' (m-(q'+1)) m->Q (p',m,q') s')->(kas_desc f p a q).kasWp cmp Q s
 |0,p,a,q,Q,s,hp,h1,ha,wd,eq,hi,k=>k p a q s hi hp (ao _) (ao _) h1 wd eq
 |f+1,p,a,q,Q,s,hp,h1,ha,wd,eq,hi,k=>by
  have hs:a<=p.size:=by rw[hp.size];exact d7 (q1 ha)
  have a1:1<=a:=aB (gE 1 q) h1;have g:a-(q+1)<=a-1/\a-1<a:=⟨xC (gE 1 q) a,y3 a1 Nat.one_pos⟩;show cmp (pat p a) (pat p (a-1)) _ s;refine hc _ _ (hp.lt (q1 ha)) (hp.lt (q2 ha)) _ s hi λs' Dq=>?_;have one:∀p':Array Nat,Wz lt p' (a+1-(0+1)) (a+1):=λp' i j h1 h2 h3 h4=>q8 (a:=a) h1 h2 h3 h4▸O.ir _;cases e:lt (pat p a) (pat p (a-1)) with
  |true=>
   show KasT.kasWp cmp (if q>0 then _ else _) Q s';by_cases hq:q>0
   .rw[aJ hq];have w2:=B7 O a _ a hs wd eq (ao _);refine ug O hc f _ (a+1) 0 (hp.rev _ _) (gE 1 a) (q3 ha) (qO O a1 w2 ?_) (one _) Dq λp' m q' s2 i2 p2 l1 l2 l3 w3 e3=>k p' m q' s2 i2 p2 (iK l1) (q0 l2) l3 w3 e3;rw[sI hs (ao _),mq hs,aJ g];exact O.tr _ (pat p (a-1)) _ (O.as _ _ e) (eq _ _ (q4 g) (q5 g) g.1 g.2)
   .rw[aI hq];exact ug O hc f _ (a+1) 0 hp (gE 1 a) (q3 ha) (qO O a1 wd (O.as _ _ e)) (one _) Dq λp' m q' s2 i2 p2 l1 l2 l3 w3 e3=>k p' m q' s2 i2 p2 (iK l1) (q0 l2) l3 w3 e3
  |false=>
   show cmp (pat p (a-1)) (pat p a) _ s';refine hc _ _ (hp.lt (q2 ha)) (hp.lt (q1 ha)) _ s' Dq λs2 Q_=>?_;cases e2:lt (pat p (a-1)) (pat p a) with
   |true=>exact k p a q s2 Q_ hp (ao _) (fZ _ _) h1 wd eq
   |false=>
    refine ug O hc f p (a+1) (q+1) hp (rp h1) (q3 ha) (qO O a1 wd e2) (λi j i1 i2 j1 j2=>?_) Q_ λp' m q' s2 i2 p2 l1 l2 l3 w3 e3=>k p' m q' s2 i2 p2 (iK l1) (q0 l2) l3 w3 e3;rw[Nat.add_sub_add_right] at i1 j1;have il:=λz=>dj (cN i2) z;have jl:=λz=>dj (cN j2) z;by_cases ia:i=a
    .by_cases ja:j=a
     .rw[ia,ja];exact O.ir _
     .rw[ia];exact O.tr _ (pat p (a-1)) _ (eq _ _ g.1 g.2 j1 (jl ja)) e
    .by_cases ja:j=a
     .rw[ja];exact O.tr _ (pat p (a-1)) _ e2 (eq _ _ i1 (il ia) g.1 g.2)
     .exact eq _ _ i1 (il ia) j1 (jl ja)
def HK (hk:k<=p.size) (w:Kj lt p k):B5 lt (kas_rev p 0 k) k:=by intro i j oE hj;have ci:0<=i/\i<k:=⟨bH _,bU oE hj⟩;rw[mq hk,mq hk,aJ ⟨bH _,hj⟩,aJ ci];exact w _ _ (xC oE _) (q5 ci)
abbrev B8 (n:Nat) (lt:Nat->Nat->Bool) (I:ar->Prop) (Q:Nat×Array Nat->ar->Prop):Prop:=∀m p' s',I s'->rS n p'->1<=m->m<=n->B5 lt p' m->Q (m,p') s'
def zY {s}(O:oM lt) (hc:LW n lt cmp I) (hp:rS n p) (h1:1<=a) (ha:a<=n) (w:Kj lt p a) (hi:I s) (q:B8 n lt I Q):(kas_tail3 a n p).kasWp cmp Q s:=by unfold kas_tail3;rw[qf];have ea:=el (jz ha);exact B6 O hc (hp.rev 0 a) (n-a) a h1 ea (HK (by rw[hp.size];exact ha) w) hi λm s' i' l1 l2 so _=>q m _ s' i' (hp.rev 0 a) (aB h1 l1) (aB l2 ea) so
def sL {s}(O:oM lt) (hc:LW n lt cmp I) (hp:rS n p) (h1:1<=a) (ha:a+1<=n) (w:Kj lt p (a+1)) (hi:I s) (q:B8 n lt I Q):(kas_descPart a n p).kasWp cmp Q s:=by
 unfold kas_descPart;rw[qf];have ea:=el (jz ha);refine ug O hc (n-(a+1)) p (a+1) 0 hp (gE 1 a) ea w (λi j i1 i2 j1 j2=>?_) hi λp' m q' s' i' p2 l1 l2 l3 w3 e3=>?_
 .exact q8 (a:=a) i1 i2 j1 j2▸O.ir _
 .have lm:m<=n:=aB l2 ea;have m1:1<=m:=aB (gE 1 a) l1;dsimp only;by_cases hq:q'>0
  .rw[aJ hq];exact zY O hc (p2.rev _ _) m1 lm (B7 O m _ m (by rw[p2.size];exact lm) w3 e3 (ao _)) i' q
  .rw[aI hq];exact zY O hc p2 m1 lm w3 i' q
def HL {s}(O:oM lt) (hc:LW n lt cmp I) (hp:rS n p) (hn:2<=n) (hi:I s) (q:B8 n lt I Q):(kas_count n p).kasWp cmp Q s:=by
 unfold kas_count;rw[qf];have n1:1<=n:=iK hn;have ea:=jz n1;refine B6 O hc hp (n-1) 1 (ao _) (el ea) (λi j oE hj=>?_) hi λm s' i' l1 l2 so st=>?_
 .exact q9 oE hj▸O.ir _
 .have lm:m<=n:=aB l2 (el ea);have hs:m<=p.size:=by rw[hp.size];exact lm
  by_cases hm:m=n
  .rw[aJ (by simp[hm])];exact q m p s' i' hp l1 lm so
  .rw[aI (by simp[hm])];have ml:m<n:=dj lm hm;have oG:=st (aT ml (el ea.symm));have g:0<=m-1/\m-1<m:=⟨bH _,y3 l1 Nat.one_pos⟩;by_cases h1:m>1
   .rw[aJ h1];show cmp (pat p 0) (pat p (m-1)) _ s';refine hc _ _ (hp.lt n1) (hp.lt (m8 g.2 ml)) _ s' i' λs2 i2=>?_;cases e:lt (pat p 0) (pat p (m-1)) with
    |true=>exact q m p s2 i2 hp l1 lm so
    |false=>
     have eq:Wz lt p 0 m:=λi j _ Dq _ WA=>by
      by_cases oE:j<=i
      .exact so j i oE Dq
      .exact O.tr _ (pat p (m-1)) _ (so j (m-1) (jb WA) g.2) (O.tr _ (pat p 0) _ e (so 0 i (bH _) Dq))
     have wd:Kj lt (kas_rev p 0 m) m:=B7 O m 0 m hs (λi j oE hj=>eq i j (bH _) (bU oE hj) (bH _) hj) eq (ao _);refine sL O hc (hp.rev 0 m) l1 ml (qO O l1 wd ?_) i2 q;rw[sI hs (ao _),mq hs,aJ g];exact O.tr _ (pat p (m-1)) _ (O.as _ _ oG) (eq _ _ (q4 g) (q5 g) g.1 g.2)
   .rw[aI h1];have:m=1:=tW (jQ.mp h1) l1;subst this;exact sL O hc hp (ao _) hn (qO O (ao _) (λi j oE hj=>q9 oE hj▸O.ir _) (O.as _ _ oG)) i' q
def uR (O:oM lt) (hc:LW n lt cmp I) (hp:rS n p) (hk:k<n) (so:B5 lt p k):∀(f l r:Nat) {Q:Nat->ar->Prop}{s:ar},l<=r->r<=k->r-l<=f->(∀i,i<l->lt (pat p k) (pat p i)=false)->(∀i,r<=i->i<k->lt (pat p i) (pat p k)=false)->I s-> (∀m s',I s'->m<=k->(∀i,i<m->lt (pat p k) (pat p i)=false)->(∀i,m<=i->i<k->lt (pat p i) (pat p k)=false)->Q m s')->(kas_place p k f l r).kasWp cmp Q s
 |0,l,r,Q,s,h1,h2,h3,a,b,hi,q=>q l s hi (aB h1 h2) a (λi h4 h5=>b i (aB (Nat.le_of_sub_eq_zero (Nat.eq_zero_of_le_zero h3)) h4) h5)
 |f+1,l,r,Q,s,h1,h2,h3,a,b,hi,q=>by
  unfold kas_place;by_cases h:l>=r
  .rw[aJ h];exact q l s hi (aB h1 h2) a (λi h4 h5=>b i (aB h h4) h5)
  .rw[aI h];obtain⟨g1,g2,g3,g4,g5⟩:=qh h h2 h3;show cmp (pat p k) (pat p ((l+r)/2)) _ s;refine hc _ _ (hp.lt hk) (hp.lt (m8 g3 hk)) _ s hi λs' Dq=>?_;cases e:lt (pat p k) (pat p ((l+r)/2)) with
   |true=>refine uR O hc hp hk so f l ((l+r)/2) g1 (d7 g3) g4 a (λi h4 h5=>?_) Dq q;exact O.tr _ (pat p ((l+r)/2)) _ (O.as _ _ e) (so _ _ h4 h5)
   |false=>refine uR O hc hp hk so f ((l+r)/2+1) r g2 h2 g5 (λi h4=>?_) b Dq q;exact O.tr _ (pat p ((l+r)/2)) _ (so _ _ (cN h4) g3) e
def HM (O:oM lt) (hc:LW n lt cmp I):∀(f:Nat) (p:Array Nat) (k:Nat) {Q:Array Nat->ar->Prop}{s:ar},rS n p->k+f=n->B5 lt p k->I s->(∀p' s',I s'->rS n p'->B5 lt p' n->Q p' s')->(kas_bin f p k).kasWp cmp Q s
 |0,p,k,Q,s,hp,hk,so,hi,q=>q p s hi hp (by rw[show n=k from hk.symm];exact so)
 |f+1,p,k,Q,s,hp,hk,so,hi,q=>by
  unfold kas_bin;rw[qf];have kn:k<n:=q1 (el hk);refine uR O hc hp kn so k 0 k (bH _) (ao _) (ao _) (λi h=>absurd h (tX _)) (λi h1 h2=>absurd h2 (Nat.not_lt_of_le h1)) hi λm s' i' l1 a b=>?_;refine HM O hc f _ (k+1) (hp.bub _ _) ((Bc k f).trans hk) (λi j oE hj=>?_) i' q;have bu:=LU (p:=p) (src:=k) (d:=k-m) (by rw[hp.size];exact kn) (Ky _ _);rw[bu,bu,Nat.sub_sub_self l1];have jk:=cN hj;by_cases i1:i=m
  .rw[aJ i1];by_cases j1:j=m
   .rw[aJ j1];exact O.ir _
   .have c:m<j/\j<=k:=⟨dj (i1▸oE) (eJ j1),jk⟩;rw[aI j1,aJ c];exact b _ (jb c.1) (Wr c)
  .rw[aI i1];by_cases i2:m<i/\i<=k
   .have c:m<j/\j<=k:=⟨aT i2.1 oE,jk⟩;rw[aJ i2,aI (fc c.1),aJ c];exact so _ _ (Nat.sub_le_sub_right oE 1) (Wr c)
   .rw[aI i2];by_cases j1:j=m
    .rw[aJ j1];exact a _ (dj (j1▸oE) i1)
    .rw[aI j1];by_cases j2:m<j/\j<=k
     .rw[aJ j2];exact so _ _ (jb (dj oE λz=>i2 (z▸j2))) (Wr j2)
     .rw[aI j2];exact so _ _ oE (aT (dj (Er λz=>j2 ⟨z,jk⟩) j1) l1)
def LY {s}(O:oM lt) (hc:LW n lt cmp I) (hn:2<=n) (hi:I s) (q:∀p' s',I s'->rS n p'->B5 lt p' n->Q p' s'):(kas_sort n).kasWp cmp Q s:=by
 unfold kas_sort;rw[qf];refine HL O hc (show rS n (List.toArray (List.range n)) from KI _) hn hi λm p' s' i' p2 l1 l2 so=>?_;dsimp only;by_cases h:m<n
 .rw[aJ h];rw[Nat.max_eq_left l1];exact HM O hc (n-m) p' m p2 (jz l2) so i' q
 .rw[aI h];exact q p' s' i' p2 (by rw[tW (jQ.mp h) l2];exact so)
end
def OP (h h':Heap):Prop:=∀b o,h.get? b=some o->h'.get? b=some o
def Rl (prog:aQ) (w:bg) (A:bL) (vs:Aad) (lt:Nat->Nat->Bool) (s:ar):Prop:=∃κ:SortKind,(∀Q:SortKind->ar->Prop,Q κ s->wpAny (model prog w) A (keyKind' vs.toArray) Q (λ_ _=>False) s)/\LW vs.length lt (kas_ask prog w A κ vs) (λs'=>s'=s)
def inOrder (vs:Aad) (p:Array Nat):Array ai:=(p.toList.map λi=>vs.getD i Value.none).toArray
def vW (vs:Aad):inOrder vs (List.toArray (List.range vs.length))=vs.toArray:=by
 unfold inOrder;congr 1;refine List.ext_getElem? λi=>?_;rw[aR];show Option.map _ (List.range vs.length)[i]?=vs[i]?;by_cases h:i<vs.length
 .rw[mW h,ag h];show some (vs.getD i Value.none)=_;rw[aw,ag h];rfl
 .rw[iB (by rw[p_];omega),iB ω];rfl
def vX {P}(here:s.heap.get? a=some (seqObj "list" vs.toArray n)) (O:oM lt) (QX:vs.length<64) (ask:2<=vs.length->∀h',(∀b o,b≠a->s.heap.get? b=some o->h'.get? b=some o)->Rl prog w A vs lt {s with heap:=h'}) (fin:∀p:Array Nat,rS vs.length p->B5 lt p vs.length->P (.done (.ret .none)) {s with heap:=sortedHeap s.heap a vs (inOrder vs p)}):
  wpAny (model prog w) A (Builtin.«list.sort» ⟨[.ref a],[]⟩) P E s:=by
 have low:a<s.heap.objs.size:=aG here;have len:vs.toArray.size=vs.length:=aC ..;obtain⟨c,emptied⟩:∃c,(s.heap.update a (Obj.mapSeq λ_=>#[])).get? a=some (seqObj "list" #[] c):=⟨_,get?_update_seq here (λ_=>#[])⟩;have others:∀b o,b≠a->s.heap.get? b=some o->(((s.heap.update a (Obj.mapSeq λ_=>#[])).push (seqObj "tuple" vs.toArray 0)).push (seqObj "list" #[] 0)).get? b=some o:=λb o ne e=>by refine af _ (af _ ?_);rw[Heap.get?_update_ne _ _ _ _ ne];exact e
 have Dr:(((s.heap.update a (Obj.mapSeq λ_=>#[])).push (seqObj "tuple" vs.toArray 0)).push (seqObj "list" #[] 0)).get? a=some (seqObj "list" #[] c):=af _ (af _ emptied);rw[list_sort_plain];refine aa (listItems_at here rfl (aa (Vd here rfl ?_)));refine aa (seqEpoch_at emptied rfl (aa (wpAny_newTuple (aa (wpAny_newList (cf ?_))))));show wpAny (model prog w) A _ P E {s with heap:=((s.heap.update a (Obj.mapSeq λ_=>#[])).push (seqObj "tuple" vs.toArray 0)).push (seqObj "list" #[] 0)};dsimp only;by_cases h2:vs.toArray.size<2
 .rw[aJ h2,aJ h2];refine aa (au ?_);rw[StateT.run_pure];refine aa (au ?_);dsimp only;refine aa (seqEpoch_at Dr rfl ?_);refine aa (Vd Dr rfl ?_ (hsz2:=by rw[Array.size_map];show(pairsOf vs).size<=_;rw[pairsOf_size,kW];omega));simp only[bne_self_eq_false,cQ,hV];have e:=fin (List.toArray (List.range vs.length)) (KI _) (λi j oE hj=>by
   have:i=j:=ω;subst this;exact O.ir _);rw[vW] at e;refine au ?_;have e2:Array.map (·.2) (vs.toArray.zip vs.toArray)=vs.toArray:=by
   apply Array.toList_inj.mp;rw[Array.toList_map,Array.toList_zip];exact List.map_snd_zip (ao _)
  show P _ {s with heap:=Heap.update _ a (Obj.mapSeq λ_=>Array.map (·.2) (vs.toArray.zip vs.toArray))};rw[e2];exact e
 .rw[aI h2,aI h2];obtain⟨κ,hk,ans⟩:=ask ω _ others;refine aa (aN (hk (λk s'=>k=κ/\s'=_) ⟨rfl,rfl⟩) ?_ λ_ _ z=>z.elim);rintro _ _ ⟨rfl,rfl⟩;refine aa (aN (kat_run (ks:=vs) (vs:=vs) (G:=λp s'=>s'=_/\rS vs.length p/\B5 lt p vs.length) (Q:=λst s'=>∃p,arrOf st=p.map (kas_item (vs.toArray.zip vs.toArray))/\failedOf st=none/\s'=_/\rS vs.length p/\B5 lt p vs.length) rfl ω QX (λp st s' _ e1 e2 g=>⟨p,e1,e2,g⟩) (LY O ans ω rfl λp s' e1 e2 e3=>⟨e1,e2,e3⟩)) ?_ λ_ _ z=>z);rintro⟨⟨⟩,st⟩ s' ⟨p,e1,e2,rfl,pm,so⟩;have e3:(arrOf st).map (·.2)=inOrder vs p:=kat_snds rfl e1;have z:(inOrder vs p).size=vs.length:=by show((p.toList.map λi=>vs.getD i Value.none).toArray).size=_;rw[aC,ah,eG,pm.size]
  dsimp only at e2 e3⊢;refine aa (seqEpoch_at Dr rfl ?_);refine aa (Vd Dr rfl ?_ (hsz2:=by rw[e3,z,kW];omega));rw[e2,e3];simp only[bne_self_eq_false,cQ,hV];exact au (fin p pm so)
def sO {b fin:Bool}{Q:Bool->ar->Prop}:∀{vs ws:Aad}{r:Bool}(i:Nat),Lex A s vs ws r->fin=decide (vs.length<ws.length)->Q r s->KatLex prog w A b fin Q (vs.zip ws) (i+1) s
 |_,_,_,i,.nn,e,q=>by rw[e];exact q
 |_,_,_,i,.nc,e,q=>by show Q _ _;rw[e,aZ ς];exact q
 |_,_,_,i,.cn,e,q=>by show Q _ _;rw[e,bw ς];exact q
 |_,_,_,i,.eq h1 h2,e,q=>by refine kat_cons (h1 _ _ _ _ (kat_yes (sO (i+1) h2 ?_ q)));rw[e];simp
 |_,_,_,i,.lt (r:=r) h1 h2,e,q=>by refine kat_cons (h1 _ _ _ _ (kat_no ?_));rw[show(b&&(i+1==0))=false by simp];exact kat_one _ _ (h2 _ _ _ _ q)
def B9 (h:Lex A s vs ws r) (q:Q (if a=c then r else dH a c) s):
  KatLex prog w A true (decide ((Value.str a t::vs).length<(Value.str c u::ws).length)) Q ((Value.str a t::vs).zip (Value.str c u::ws)) 0 s:=by
 have he:=rm (A:=A) (s:=s) a t c u;rw[jR];by_cases e:a=c
 .rw[aJ e] at q;rw[show(a==c)=true by simpa using e] at he;exact kat_cons (he _ _ _ _ (kat_yes (sO 0 h ς q)))
 .rw[aI e] at q;rw[show(a==c)=false by simpa using e] at he;exact kat_cons (he _ _ _ _ (kat_no (oneLt_str q)))
def Fg (a:Str) (t:Tok):Looks M h (typeOf (.str a t)) (.type "str"):=Looks.of_pure rfl
def acH (h:Heap) (vs:Aad) (hd:Nat->Str) (rs:Nat->Aad):Prop:=∀i,i<vs.length->∃(a:aq) (t:Tok),vs[i]?=some (.ref a)/\IsTup h a (Value.str (hd i) t::rs i).toArray
def zZ:∀{vs:Aad}{hd:Nat->Str}{rs:Nat->Aad},acH h vs hd rs->∃fs:Aad,KatTups h vs fs/\fs.length=vs.length/\∀v∈fs,∃a t,v=Value.str a t
 | [],_,_,_=>⟨[],.nil,rfl,λv hv=>by cases hv⟩
 |v::vs,hd,rs,x=>by
  obtain⟨fs,k,l,al⟩:=zZ (vs:=vs) (hd:=λi=>hd (i+1)) (rs:=λi=>rs (i+1)) λi hi=>by obtain⟨a,t,e,p⟩:=x (i+1) (by simp;omega);exact⟨a,t,by simpa using e,p⟩
  obtain⟨a,t,e,o,ho,hc,n,hdd⟩:=x 0 ς;cases(show v=Value.ref a by simpa using e);refine⟨.str (hd 0) t::fs,KatTups.cons ho hc hdd ς k,by simp[l],λz hz=>?_⟩;rcases aU.mp hz with rfl|hz
  .exact⟨_,_,rfl⟩
  .exact al z hz
def Fh {lt r:Nat->Nat->Bool}(h2:2<=vs.length) (x:acH s.heap vs hd rs) (hx:∀i j,i<vs.length->j<vs.length->Lex A s (rs i) (rs j) (r i j)) (ie:∀i j,i<vs.length->j<vs.length->lt i j=if hd i=hd j then r i j else dH (hd i) (hd j)):Rl prog w A vs lt s:=by
 obtain⟨fs,k,l,al⟩:=zZ x;refine⟨tuples' true,λQ q=>kat_kind (T:=.type "str") k ω (λv hv=>?_) δ q,λi j hi hj C s' e q=>?_⟩
 .obtain⟨a,t,rfl⟩:=al v hv;exact Fg a t
 .subst e;have q':=q _ rfl;rw[ie i j hi hj] at q';obtain⟨a,t,e1,o1,ho1,_,n1,d1⟩:=x i hi;obtain⟨b,u,e2,o2,By,_,n2,d2⟩:=x j hj;show wpAny _ _ (keyLt' _ (vs.getD i Value.none) (vs.getD j Value.none)) C _ _;rw[aw,aw,e1,e2];refine kat_lt ho1 d1 By d2 ?_;exact B9 (hx i j hi hj) q'
structure Kk {κ:Type}(lt:κ->κ->Bool):Prop where
 LD:∀a,lt a a=false
 trans:∀a b c,lt a b=true->lt b c=true->lt a c=true
 UJ:∀a b,a≠b->lt a b=true\/lt b a=true
def Kk.ok {κ:Type} [DecidableEq κ] {lt:κ->κ->Bool}(S:Kk lt) (f:Nat->κ):oM λi j=>lt (f i) (f j):=by
 have as:∀a b,lt a b=true->lt b a=false:=λa b h=>by
  cases e:lt b a with
  |false=>rfl
  |true=>have:=S.trans _ _ _ h e;rw[S.LD] at this;cases this
 refine⟨λa b h=>as _ _ h,λa b c h1 h2=>?_⟩;cases e:lt (f c) (f a) with
 |false=>rfl
 |true=>
  exfalso;by_cases ab:f a=f b
  .rw[<-ab,e] at h2;cases h2
  .rcases S.UJ _ _ ab with h|h
   .rw[S.trans _ _ _ e h] at h2;cases h2
   .rw[h] at h1;cases h1
def ltI (a b:Int):Bool:=decide (a<b)
def WB:Kk ltI:=⟨λa=>bw ω,λa b c h1 h2=>aZ (by have:=fe h1;have:=fe h2;omega),λa b h=>by
 by_cases e:a<b
 .exact .inl (aZ e)
 .exact .inr (aZ ω)⟩
def WC:Kk dH:=⟨oh,λ_ _ _=>lJ,λ_ _=>qK⟩
def z_ {α β:Type} [DecidableEq α] (f:α->α->Bool) (g:β->β->Bool) (x y:α×β):Bool:=if x.1=y.1 then g x.2 y.2 else f x.1 y.1
def Kk.lex {α β:Type} [DecidableEq α] {f:α->α->Bool}{g:β->β->Bool}(F:Kk f) (G:Kk g):Kk (z_ f g):=by
 refine⟨λa=>by unfold z_;rw[aJ rfl];exact G.LD _,λa b c h1 h2=>?_,λa b h=>?_⟩
 .unfold z_ at*;by_cases e1:a.1=b.1
  .rw[aJ e1] at h1;by_cases e2:b.1=c.1
   .rw[aJ e2] at h2;rw[aJ (e1.trans e2)];exact G.trans _ _ _ h1 h2
   .rw[aI e2] at h2;rw[aI (by rw[e1];exact e2),e1];exact h2
  .rw[aI e1] at h1;by_cases e2:b.1=c.1
   .rw[aI (by rw[<-e2];exact e1),<-e2];exact h1
   .rw[aI e2] at h2;have h3:=F.trans _ _ _ h1 h2;rw[aI (λz=>by rw[z,F.LD] at h3;cases h3)];exact h3
 .unfold z_;by_cases e:a.1=b.1
  .rw[aJ e,aJ e.symm];exact G.UJ _ _ λz=>h (vH e z)
  .rw[aI e,aI (λz=>e z.symm)];exact F.UJ _ _ e
def oO:Str×Str×Int->Str×Str×Int->Bool:=z_ dH (z_ dH ltI)
def uS:Kk oO:=WC.lex (WC.lex WB)
def LZ (a:Int) (t:Tok) (c:Int) (u:Tok) (h:Lex A s vs ws r):Lex A s (.int a t::vs) (.int c u::ws) (if a=c then r else ltI a c):=by
 have he:=kO (A:=A) (s:=s) a t c u;by_cases e:a=c
 .rw[aJ e];rw[show(a==c)=true by simpa using e] at he;exact .eq he h
 .rw[aI e];rw[show(a==c)=false by simpa using e] at he;exact .lt he (nB.int a t c u)
def L4 (a:Str) (t:Tok) (c:Str) (u:Tok) (h:Lex A s vs ws r):Lex A s (.str a t::vs) (.str c u::ws) (if a=c then r else dH a c):=by
 have he:=rm (A:=A) (s:=s) a t c u;by_cases e:a=c
 .rw[aJ e];rw[show(a==c)=true by simpa using e] at he;exact .eq he h
 .rw[aI e];rw[show(a==c)=false by simpa using e] at he;exact .lt he (nB.str a t c u)
def Fi {α:Type}(L:List α) (d:α) {p:List Nat}(h:p.Perm (List.range L.length)):(p.map λi=>L.getD i d).Perm L:=by
 have h1:=h.map λi=>L.getD i d;have e:(List.range L.length).map (λi=>L.getD i d)=L:=by
  refine List.ext_getElem? λi=>?_;rw[aR];by_cases hi:i<L.length
  .rw[mW hi,ag hi];show some (L.getD i d)=_;rw[aw,ag hi];rfl
  .rw[iB (by rw[p_];omega),iB ω];rfl
 rwa[e] at h1
def Aa {α:Type}{L:List α}{d:α}{lt:α->α->Bool}{p:Array Nat}(pm:rS L.length p) (so:B5 (λi j=>lt (L.getD i d) (L.getD j d)) p L.length):(p.toList.map λi=>L.getD i d).Pairwise λe e'=>lt e' e=false:=by
 rw[Og];intro i j hi hj oE;rw[ah,eG] at hi hj;have hz:=pm.size;have at_:∀k (hk:k<p.size),pat p k=p.toList[k]'(by rw[eG];exact hk):=λk hk=>by unfold pat;rw[iJ,getElem?_pos p k hk,Array.getElem_toList];rfl
 have:=so i j ω ω;rw[at_ i hi,at_ j hj] at this;rw[Et,Et];exact this
structure rT (κ:Type) where
 a:aq
 x:Str
 rest:Aac
 key:κ
section
variable {κ:Type}
def wY:∀{L:List (rT κ)}{us:Aad},cx (L.map λe=>V.ref e.a) us->us=L.map λe=>Value.ref e.a
 | [],_,r=>by cases r;rfl
 |e::L,_,r=>by
  cases r with
  |cons r1 r2=>rw[bG,wY r2,show _=Value.ref e.a from r1]
def wZ:∀(L:List (rT κ)),cx (L.map λe=>V.ref e.a) (L.map λe=>Value.ref e.a)
 | []=>.nil
 |e::L=>.cons rfl (wZ L)
end
section
variable {h:Heap}{g:Array GenState}{d:Drawn}{t:Nat}{os:OsState}{a C:aq}
end
def aaW (K:Φ) (C:aq) (tb:(ai->St->Hp->Prop)->TS) (ts:TS):TS:=λD U H=>
 tb (λcls de H'=>exmOne K cls (.ref C)=some true/\ts D de H') D U H
def Rm (WD:X.stack=X.env::X.outer) (HF:X.env.frame=some X.env.locals) (hg:Gl X x) (hm:X.mg x=some (.ref C)) (hb:∀ac W,su (X.B4 ac W) body (tb W)) (hs:∀a,su (X.OO a) (b0::WE) ts) (s_:(x==("__debug__":Str))=false:=by decide):
  PS X (.Try body [.ExceptHandler (some (.Name x xp)) none (b0::WE) hp] [] [] pos) (aaW X.K C tb ts):=by
 intro ac s U H D I h;refine wpAny_Try_except ?_;refine aN (hb ac _ [] s U H D (I.B4 _) h) (λf s1 q=>?_) λe s1 q=>?_
 .have q':=q.uQ;cases f with
  |next=>exact au q'
  |brk=>exact q'
  |cont=>exact q'
  |ret u=>exact q'
 .obtain⟨a,cls,de,H',rfl,I1,⟨B,Ki,wq,hp',o1,o2⟩,w1,w2⟩:=q;have frm:X.A.frames=some (X.env::X.outer):=by rw[<-WD];exact I.ok.frames
  rw[WD] at Ki;refine Dp frm HF Ki λh1 G1 u1=>?_;have I2:=I1.zX Ki.st G1.st u1 wq hp' o1 o2;refine x_ (s:={s1 with heap:=h1}) G1 λh2 G2 u2=>?_;have I3:=I2.zX G1.st G2.st u2 wq hp' o1 o2;refine wpAny_handleBy_cons (codeAny_handlers_test ?_) (λz=>nomatch z);refine lZ (X:=X.OO a) (I3.OO a) hg hm ?_ s_;obtain⟨oe,vs,T,oT,ts',he,hc,r⟩:=G2.tr;have lt:Looks (model X.prog X.w) h2 (typeOf (.ref a)) cls:=by rw[<-hc];exact(Looks.ld he).andThen .now
  refine(exm_one (M:=model X.prog X.w) (K:=X.K) (h:=h2) (I3.pJ) lt w1).here ?_;refine codeAny_handlers_suite ?_;refine x_ (s:={s1 with heap:=h2}) G2 λh3 G3 u3=>?_;have I4:=I3.zX G2.st G3.st u3 wq hp' o1 o2;refine aN (hs a ac _ _ _ _ (I4.OO a) w2) (λf s7 q=>?_) λ_ _ z=>False.elim z;have un:∀{yW:St} {H7:Hp},Inv (X.OO a) ac yW H7 s7->Inv X ac yW H7 s7:=λJ=>J.Wx I.ok.hd I.ok.frames;cases f with
  |next=>obtain⟨yW,H7,J,q⟩:=q;exact⟨_,_,un J,q⟩
  |brk=>obtain⟨yW,H7,J,q⟩:=q;exact⟨_,_,un J,q⟩
  |cont=>obtain⟨yW,H7,J,q⟩:=q;exact⟨_,_,un J,q⟩
  |ret u=>obtain⟨v,yW,H7,J,r,q⟩:=q;exact⟨v,_,_,un J,r,q⟩
section
variable {M:Model}{x C f:aq}{o:Obj}{name:Str}
def Ab (sk:K.In s.heap) (hx:s.heap.get? x=some o) (hc:o.cls=.ref C) (hf:findIn K (.ref C) name=some r) (q:Q r s):wpAny M A (specialOf (.ref x) name) Q E s:=by unfold specialOf;refine aa (PU hx ?_);rw[hc];exact(looks_findIn sk hf).here q
def Ac (sk:K.In s.heap) (hx:s.heap.get? x=some o) (hc:o.cls=.ref C) (hf:findIn K (.ref C) name=some (some (.ref f))) (Kb:isFn K (.ref f)=true) (uT:wpAny M A (call (.ref f) (.ref x::args)) (λv=>Q (some v)) E s):wpAny M A (callSpecialIfBound? (.ref x) name args) Q E s:=by
 simp only[callSpecialIfBound?,bindSpecialIfBound?];refine cf (aa (aa (Ab sk hx hc hf ?_)));refine aa (PN (wpAny_ite ?_));have fin:wpAny M A (call (.ref f) ([.ref x]++args)>>=λv=>pure (some v)) Q E s:=aa (aN uT (λv s' h'=>au h') λ_ _ h'=>h');split
 .exact aa ((bind_fn sk (.ref x) (k_.mp Kb)).here (au (by exact fin)))
 .exact cg (aa ((bind_fn sk (.ref x) (k_.mp Kb)).here (au (by exact fin))))
def ye {id:String} (sk:K.In s.heap) (hx:s.heap.get? x=some o) (hc:o.cls=.ref C) (hf:findIn K (.ref C) name=some (some (.builtin id))) (S:Slot B name id) (uT:wpAny M A (call (.builtin id) (.ref x::args)) (λv=>Q (some v)) E s):wpAny M A (callSpecialIfBound? (.ref x) name args) Q E s:=by
 simp only[callSpecialIfBound?,bindSpecialIfBound?];refine cf (aa (aa (Ab sk hx hc hf ?_)));simp only[S.bind];refine aa (PN (wpAny_ite ?_));have fin:wpAny M A (call (.builtin id) ([.ref x]++args)>>=λv=>pure (some v)) Q E s:=aa (aN uT (λv s' h'=>au h') λ_ _ h'=>h');split
 .exact aa (au (au fin))
 .exact cg (aa (au (au fin)))
end
section
variable {x y C f:aq}{o oy:Obj}
def Fj (sk:K.In s.heap) (hx:s.heap.get? x=some o) (hc:o.cls=.ref C) (hf:findIn K (.ref C) "__eq__"=some (some (.ref f))) (Kb:isFn K (.ref f)=true) (hu:A.units<cLine) (uT:wpAny (model prog w) A (call (.ref f) [.ref x,.ref y]) (λv s'=>∃b,v=.bool b/\Q (.done (.ret (.bool (!b)))) s') E s):
  wpAny (model prog w) A (Builtin.«object.__ne__» ⟨[.ref x,.ref y],[]⟩) Q E s:=by
 unfold Builtin.«object.__ne__»;repeat (first
  |with_reducible refine wpAny_cRoomFor hu ?_
  |(refine aa (m:=callSpecialIfBound? (.ref x) (Str.ofString "__eq__") [.ref y]) (Ac sk hx hc hf Kb (aN uT (λr s' hr=>by obtain⟨b,rfl,hq⟩:=hr;repeat (first|exact hq|exact au hq|exact bB hq|(refine aa (m:=truthy (.bool _)) (bB ?_))|wp_step)) λ_ _ e=>e)))
  |wp_step)
def WG (sk:K.In s.heap) (hx:s.heap.get? x=some o) (hc:o.cls=.ref C) (hf:findIn K (.ref C) "__eq__"=some (some (.ref f))) (Kb:isFn K (.ref f)=true) (UK:findIn K (.ref C) "__ne__"=some (some (.builtin "object.__ne__"))) (Rn:mroIn K C (.type "object")=some true) (hy:s.heap.get? y=some oy) (hyc:oy.cls=.ref C) (hu:A.units+1<cLine) (uT:wpAny (model prog w) A.in1 (call (.ref f) [.ref x,.ref y]) (λv s'=>∃b,v=.bool b/\Q (.bool (!b)) s') E s):
  wpAny (model prog w) A (compareOp .NotEq (.ref x) (.ref y)) Q E s:=by
 have L0:Looks (model prog w) s.heap (typeOf (.ref x)) (.ref C):=hc▸(Looks.ld hx).andThen .now;have L1:Looks (model prog w) s.heap (isInstance (.ref x) (.type "object")) true:=L0.andThen (looks_mroIn sk Rn);unfold compareOp richCompare;simp only[oneThing_ref];refine cf ?_;refine aa (wpAny_cRoomFor (Nat.lt_of_succ_lt hu) ?_);rw[cmpInfo_NotEq];dsimp only;refine aa (PU hx ?_);rw[hc];refine aa (PU hy ?_);rw[hyc];rw[show(Value.ref C !=Value.ref C)=false from by simp];simp only[cQ,hV];refine aa (au ?_);simp only[cQ,hV];unfold tryCompare;refine aa (aa (ye sk hx hc UK PySem.F.cmp_object.ne (m7 (codeAny_call_builtin PySem.F.cmp_object.ne.plain F.cmpEntry_ne (check_slot F.cmpKind_ne F.cmpSplit_ne L1 (F.cmpArgs_ne _ _) (Fj (A:=A.in1) sk hx hc hf Kb hu (aN uT (λv s' hv=>?_) λ_ _ e=>e)))))));obtain⟨b,rfl,hq⟩:=hv;exact⟨b,rfl,au (au hq)⟩
end
section
variable {k:Nat}{f C:aq}{fd:FuncData}{ps:Aab}{sp:Sp}
def L6 {ac:Aaa}{U:St}{H:Hp}{s:ar}{Q:VK}{R:Aaf}{us:Aad}{vs:Aac}(F:cG X.prog X.w X.K X.mg X.base fK k f fd ps sp) (hr:eS (k+1) X.A) (hb:Binds X.K fd ps []) (I:Inv X ac U H s) (r:cx vs us) (h:sp vs H Q E0) (hR:∀u s',EP X ac U Q u s'->R u s'):wpAny (model X.prog X.w) X.A.in1 (call (.ref f) us) R X.xe s:=by
 have hl:(us++ []).length=ps.length:=by rw[dU,<-r.length];exact F.len _ _ _ _ h
 refine m7 (iM (F.run X.A.in1 X.stack s H ⟨us,[]⟩ (us++ []) vs Q E0 hr.in1 I.EG.in1 (hb s us I.pJ hl) (by rw[dU];exact r) h) λr s' hq=>?_);cases r with
 |error e=>exact False.elim hq
 |ok fl=>
  cases fl with
  |ret u=>exact hR _ _ (I.after hq)
  |next=>exact False.elim hq
  |brk=>exact False.elim hq
  |cont=>exact False.elim hq
def Ds {P}{H}(dh:nU P w H h) (e:H a=some (.ins C dx fs)):∃o,h.get? a=some o/\o.cls=.ref C:=by obtain⟨d,z,ne,ob,_⟩:=(show fD P w H h a (.ins C dx fs) from dh a _ e);exact⟨_,ob,rfl⟩
def aaX (C:aq) (sp:Sp) (neg:Bool):R2:=λx y H Q=>∃a b dx fs WH Vl,x=.ref a/\y=.ref b/\H a=some (.ins C dx fs)/\H b=some (.ins C WH Vl)/\sp [.ref a,.ref b] H (λv H'=>∃c:Bool,v=.bl c/\Q (.bl (if neg=true then !c else c)) H') E0
def Ro (F:cG X.prog X.w X.K X.mg X.base fK k f fd ps sp) (hr:eS (k+1) X.A) (hb:Binds X.K fd ps []) (hm:Bs X.K C "__eq__" f) (UK:findIn X.K (.ref C) "__ne__"=some (some (.builtin "object.__ne__"))) (Rn:mroIn X.K C (.type "object")=some true):gT X (compareOp .NotEq) (aaX C sp true):=by rintro ac s U H x y u v Q I rx ry ⟨a,b,dx,fs,WH,Vl,rfl,rfl,ea,eb,h⟩;obtain rfl:u=Value.ref a:=rx;obtain rfl:v=Value.ref b:=ry;obtain⟨o,ho,hc⟩:=Ds I.dh ea;obtain⟨o',wt,ze⟩:=Ds I.dh eb;refine WG I.pJ ho hc hm.at_ hm.fn UK Rn wt ze (by have:=hr.units;omega) (L6 (vs:=[.ref a,.ref b]) F hr hb I (.cons rfl (.cons rfl .nil)) h ?_);rintro r s' ⟨v,H',I',rv,c,rfl,q⟩;obtain rfl:r=Value.bool c:=rv;exact⟨c,rfl,.bl (!c),H',I',rfl,q⟩
end
section
variable {W:ai->St->Hp->Prop}{k:Nat}{C:aq}{m:Str}{ps:Aab}{sp:Sp}{o e:Expr}{es:List Expr}{ta:TE}{t:TA}{apos pos:Pos}
end
def Ad (hl:s.heap.IsTuple l vs.toArray) (O:oM lt) (QX:vs.length<64) (ask:2<=vs.length->∀h',OP s.heap h'->Rl prog w A.in1.in1 vs lt {s with heap:=h'}) (fin:∀p:Array Nat,rS vs.length p->B5 lt p vs.length->Q (.ref (s.heap.objs.size+1)) {s with heap:=sortedAll s.heap vs (inOrder vs p)}):
  wpAny (model prog w) A (call (.builtin "sorted") [.ref l]) Q E s:=by
 refine Calls.call_function_entry kind_sorted plain_sorted entry_sorted (args_sorted1 _) ?_;unfold Builtin.«sorted»;refine aa (m:=checkCount "sorted" 1 1 _) (au (aa (Hu hl (aa (wpAny_newList ?_)) (by rw[kW];omega))));have z:((s.heap.push (seqObj "list" #[] 0)).update s.heap.objs.size (Obj.mapSeq (· ++vs.toArray))).objs.size=s.heap.objs.size+1:=by rw[Heap.size_update,size_push']
 have g_:(((s.heap.push (seqObj "list" #[] 0)).update s.heap.objs.size (Obj.mapSeq (· ++vs.toArray))).push (seqObj "list" vs.toArray 0)).get? (s.heap.objs.size+1)=some (seqObj "list" vs.toArray 0):=z▸av _ rfl;have old:∀b o,s.heap.get? b=some o->b<s.heap.objs.size/\(((s.heap.push (seqObj "list" #[] 0)).update s.heap.objs.size (Obj.mapSeq (· ++vs.toArray))).push (seqObj "list" vs.toArray 0)).get? b=some o:=λb o e=>by have lo:b<s.heap.objs.size:=aG e;refine⟨lo,af _ ?_⟩;rw[Heap.get?_update_ne _ _ _ _ (aW lo)];exact af _ e
 show wpAny _ _ _ _ _ {s with heap:=((s.heap.push (seqObj "list" #[] 0)).update s.heap.objs.size (Obj.mapSeq (· ++vs.toArray))).push (seqObj "list" vs.toArray 0)};rw[z];refine aa (cf (hX slot_list_sort ⟨_,g_,rfl⟩ entry_list_sort ?_ (args_list_sort _)));refine vX g_ O QX (λh2 h' k=>?_) λp pm so=>⟨_,rfl,au ⟨_,rfl,fin p pm so⟩⟩;exact ask h2 h' λb o e=>k b o (aW (b8 (old b o e).1)) (old b o e).2
section
variable {κ:Type}
def tw [DecidableEq κ] {lt:κ->κ->Bool}(S:Kk lt) (dk:κ):dR X (.builtin "sorted") (λxs H Q=>∃(p:aq) (L:List (rT κ)) (R:rT κ->rT κ->Bool),xs=[.ref p]/\iY X.K H p (L.map λe=>V.ref e.a)/\L.length<64/\(∀e∈L,iY X.K H e.a (.str e.x::e.rest))/\ (∀(ac:Aaa) (U:St) (s:ar),Inv X ac U H s->∀e∈L,∀e'∈L,∀us us':Aad,cx e.rest us->cx e'.rest us'->∀h',OP s.heap h'->Lex X.A.in1.in1 {s with heap:=h'} us us' (R e e'))/\ (∀e∈L,∀e'∈L,lt e.key e'.key=if e.x=e'.x then R e e' else dH e.x e'.x)/\ ∀(l:aq) (L':List (rT κ)),H l=none->L'.Perm L->(L'.Pairwise λe e'=>lt e'.key e.key=false)->Q (.ref l) (upd H l (.lst (L'.map λe=>V.ref e.a)))):=by
 intro ac s U H xs us Q I r h;obtain⟨p,L,R,rfl,hq,QX,hT,hR,hK,q⟩:=h;obtain⟨u,rfl,rx⟩:=mB r;cases(show u=Value.ref p from rx);obtain⟨bV,rv,pl,hz⟩:=I.tuple hq;cases wY rv;have d:rT κ:=⟨0,"",[],dk⟩;have gt:∀i,i<L.length->L.getD i d∈L:=λi hi=>by rw[aw,ag hi];exact dD hi
 have lz:(L.map λe=>Value.ref e.a).length=L.length:=ah _;have ex:∀i,∃us:Aad,i<L.length->∃t,cx (L.getD i d).rest us/\IsTup s.heap (L.getD i d).a (Value.str (L.getD i d).x t::us).toArray:=λi=>by
  by_cases hi:i<L.length
  .obtain⟨bV,r,tp,_⟩:=I.tuple (hT _ (gt i hi));cases r with
   |cons r1 r2=>obtain⟨t,rfl⟩:=r1;exact⟨_,λ_=>⟨t,r2,tp⟩⟩
  .exact⟨[],λh=>absurd h hi⟩
 obtain⟨rs,hrs⟩:=Classical.skolem.mp ex;refine Ad (show s.heap.IsTuple p (L.map λe=>Value.ref e.a).toArray from pl) (S.ok λi=>(L.getD i d).key) ω (λh2 h' g=>?_) λpp pm so=>?_
 .refine Fh (s:={s with heap:=h'}) (hd:=λi=>(L.getD i d).x) (rs:=rs) (r:=λi j=>R (L.getD i d) (L.getD j d)) h2 (λi hi=>?_) (λi j hi hj=>?_) (λi j hi hj=>?_)
  .rw[lz] at hi;obtain⟨t,_,tp⟩:=hrs i hi;refine⟨(L.getD i d).a,t,?_,tp.keeps g⟩;rw[aR,aw,ag hi];rfl
  .rw[lz] at hi hj;obtain⟨_,v1,_⟩:=hrs i hi;obtain⟨_,v2,_⟩:=hrs j hj;exact hR ac U s I _ (gt i hi) _ (gt j hj) _ _ v1 v2 h' g
  .rw[lz] at hi hj;exact hK _ (gt i hi) _ (gt j hj)
 .rw[lz] at pm so;have e1:inOrder (L.map λe=>Value.ref e.a) pp=((pp.toList.map λi=>L.getD i d).map λe=>Value.ref e.a).toArray:=by unfold inOrder;congr 1;rw[jh];refine List.map_congr_left λi hi=>?_;have Dq:i<L.length:=ou.mp (pm.mem_iff.mp hi);show(L.map λe=>Value.ref e.a).getD i Value.none=Value.ref (L.getD i d).a;rw[aw,aR,aw,ag Dq];rfl
  rw[e1];have p1:=Fi L d pm;have p2:=Aa (lt:=λe e'=>lt e.key e'.key) pm so;generalize pp.toList.map (λi=>L.getD i d)=L' at p1 p2;obtain⟨e,he⟩:=sortedAll_at s.heap (L.map λe=>Value.ref e.a) (L'.map λe=>Value.ref e.a).toArray;have fresh:H (s.heap.objs.size+1)=none:=I.dh.fresh (dg _);have QG:=p1.length_eq;refine⟨.ref (s.heap.objs.size+1),upd H (s.heap.objs.size+1) (.lst (L'.map λe=>V.ref e.a)),I.laid (t':=s.toks) (λb o eb=>sortedAll_old eb) (dg _) ⟨?_,L'.map λe=>Value.ref e.a,e,wZ L',?_⟩,rfl,q _ L' fresh p1 p2⟩
  .rw[ah];exact d7 (lD ω)
  .rw[he]
def RwE (H:Hp) (e:rT (Str×Str×Int)):Prop:=e.x=e.key.1/\e.rest=[.str e.key.2.1,.int e.key.2.2]/\H e.a=some (.tup [.str e.key.1,.str e.key.2.1,.int e.key.2.2])
def uU:dR X (.builtin "sorted") (λxs H Q=>∃(p:aq) (L:List (rT (Str×Str×Int))),xs=[.ref p]/\iY X.K H p (L.map λe=>V.ref e.a)/\L.length<64/\(∀e∈L,RwE H e)/\ ∀(l:aq) (L':List (rT (Str×Str×Int))),H l=none->L'.Perm L->(L'.Pairwise λe e'=>oO e'.key e.key=false)->Q (.ref l) (upd H l (.lst (L'.map λe=>V.ref e.a)))):=by
 intro ac s U H xs us Q I r h;obtain⟨p,L,rfl,hq,QX,hT,q⟩:=h;refine tw uS ("","",0) ac s U H [.ref p] us Q I r ⟨p,L,λe e'=>z_ dH ltI e.key.2 e'.key.2,rfl,hq,QX,λe he=>?_,λac U s I e he e' he' us us' r1 r2 h' g=>?_,λe he e' he'=>?_,q⟩
 .obtain⟨e1,e2,e3⟩:=hT e he;rw[e1,e2];exact iY.of e3
 .obtain⟨_,e2,_⟩:=hT e he;obtain⟨_,g2,_⟩:=hT e' he';rw[e2] at r1;rw[g2] at r2;cases r1 with
  |cons a1 a2=>
   cases a2 with
   |cons b1 b2=>
    cases b2;cases r2 with
    |cons c1 c2=>
     cases c2 with
     |cons d1 d2=>
      cases d2;obtain⟨t,rfl⟩:=a1;obtain⟨t',rfl⟩:=c1;obtain⟨u,rfl⟩:=b1;obtain⟨u',rfl⟩:=d1;have:=L4 (A:=X.A.in1.in1) (s:={s with heap:=h'}) e.key.2.1 t e'.key.2.1 t' (LZ e.key.2.2 u e'.key.2.2 u' .nn);have e5:(if e.key.2.2=e'.key.2.2 then false else ltI e.key.2.2 e'.key.2.2)=ltI e.key.2.2 e'.key.2.2:=by
       split
       .rename_i z;rw[z,WB.LD]
       .rfl
      rw[e5] at this;exact this
 .obtain⟨e1,_⟩:=hT e he;obtain⟨g1,_⟩:=hT e' he';rw[e1,g1];rfl
end
open AutoSeq1 (wpAny_loadPart')
section
variable {x C f:aq}{o:Obj}{y T:ai}
end
section
variable {k:Nat}{f C:aq}{fd:FuncData}{ps:Aab}{sp:Sp}
end
def jM (c:aq) (q:Str):HO:=.ext λh=>h.CodeRec (.ref c) q
def Ae {P}{H}(x:h.CodeRec (.ref c) q):fD P w H h c (jM c q):=by
 refine⟨x,?_,λh1 h2 y k=>?_⟩
 .obtain⟨c',oc,vs,t,e,ho,_⟩:=x;cases e;exact⟨_,ho⟩
 .obtain⟨c',oc,vs,t,e,ho,r⟩:=y;cases e;exact⟨c,oc,vs,t,rfl,k _ ho,r⟩
def L8 {k:Nat}{f c:aq}{name qual:Str}{params:Arguments}{body:Expr}{scope:Scope}{pm mY:ai}{N ps:Aab}{A:bL}{outer:List Env}{s:ar}{H:Hp}{us:Aad}{vs:Aac}{Q:VK}(S:bx N ps scope) (ho:s.heap.get? f=some (kla_obj name qual params body scope [] pm c mY)) (mX:s.heap.CodeRec (.ref c) qual) (hr:eS (k+1) A) (e0:uA P w K mg base A outer s H) (hb:BindsTo s (kla_fn name qual params body scope [] pm (.ref c) mY) ⟨us,[]⟩ (ps.zip us)) (hl:vs.length=ps.length) (r:cx vs us) (iS:eS k (A.deeper (envOfC qual scope s.heap.objs.size f (.ref c)))->∃t,PE (jC fK P w K mg base N qual scope f (.ref c) A outer s H E0) body t/\t (start N vs) H Q):
  codeAny (model P w) A (.call (.ref f) ⟨us,[]⟩) (CR fK outer P w H s Q E0) s:=by
 have lim:s.heap.NoLimit:=e0.mod.nolimit.keeps λb o e=>(e0.bs b o e).1;have G7:∀y∈ps.zip us,scope.names.lookup y.1=some .local\/(scope.names.lookup y.1=some .cell/\((cellsFrom (s.heap.objs.size+1) scope.names []).lookup y.1).isSome=true):=λ⟨n,v⟩ hy=>by
  rcases S.par n (tS hy).1 with q|q
  .exact .inl q
  .exact .inr ⟨q,sW _ _ _ (.inl q)⟩
 refine kla_callFunE hr.depth ho rfl S.co S.gen rfl mX (hb _ _ _ _ ?_);refine wpAny_newFunctionEnv_cells S.kind G7 λenv he s1 x=>?_;subst he;refine⟨lim.keeps x.toInCall.keep,kla_codeExpr ?_⟩;obtain⟨t,ht,hq⟩:=iS (hr.deeper _);have I:Inv (jC fK P w K mg base N qual scope f (.ref c) A outer s H E0) [] (start N vs) H s1:=wD S hr.hd e0 hl r x;refine aN (ht [] s1 (start N vs) H _ I hq) (λu s' hs=>?_) λe s' hs=>hs;obtain⟨v,H',J,rv,q⟩:=hs;exact⟨v,H',J.os,J.bare,J.base,J.dh,rv,q⟩
def tz (base:Heap) (mg:Aae):Prop:=∃bm ob,mg "__builtins__"=some (.ref bm)/\bm≠builtinsNs/\base.get? bm=some ob/\ob.cls=.type "module"/\ob.dict=some builtinsNs/\ob.data=.plain
def TabAt (H:Hp) (Pt:aq) (pos:Pos) (q:Str):Prop:=H Pt=some (.jT #[])\/∃c,H Pt=some (.jT #[rawInt pos.line,rawInt pos.col,.ref c])/\H c=some (jM c q)
def TabAt.ps {H}(t:TabAt H Pt pos q):∃ps,H Pt=some (.jT ps):=by
 rcases t with t|⟨c,t,_⟩
 .exact⟨_,t⟩
 .exact⟨_,t⟩
def TabAt.same {H}(t:TabAt H Pt pos q) (s:bc H H'):TabAt H' Pt pos q:=by
 rcases t with t|⟨c,t,u⟩
 .exact .inl (s _ _ t)
 .exact .inr ⟨c,s _ _ t,s _ _ u⟩
def HN {A}{E}(I:Inv X ac U H s) (qP:X.env.code=.ref c) (C:CodeHd X.base c Pt) (B:tz X.base X.mg) (tb:TabAt H Pt pos q) (hq:X.env.qual++"<lambda>"=q) (hd:defaultsOf params X.env=([],[])) (zA:closureFor scope X.env=pure []) (k:∀f c' mY pm H' s',Inv X ac U H' s'->s'.heap.get? f=some (kla_obj "<lambda>" q params body scope [] pm c' mY)->s'.heap.CodeRec (.ref c') q->H' f=none->f≠X.env.locals->f∉X.fs->H' c'=some (jM c' q)->cX Pt H H'->TabAt H' Pt pos q->Q (.ref f) s'):
  wpAny M A (eval (.Lambda params body scope pos) X.env) Q E s:=by
 have WI:=I.ok.mod.glob.keeps I.bk;obtain⟨ps0,tb0⟩:=tb.ps;have WJ:∀b o,X.base.get? b=some o->b≠Pt:=λb o e z=>by have:=(I.bs b o e).2;rw[z,tb0] at this;cases this
 have hgP:mainGlobals≠Pt:=by obtain⟨o,es,ep,e,_⟩:=I.ok.mod.glob;exact WJ _ _ e
 obtain⟨bm,ob,b1,b2,b3,b4,b5,b6⟩:=B;have hbG:bm≠mainGlobals:=λz=>by obtain⟨o,es,ep,e,hd,_⟩:=I.ok.mod.glob;rw[z,e] at b3;cases b3;rw[hd] at b6;cases b6
 have Rp:s.heap.BuiltinsAt X.mg Pt:=⟨bm,ob,b1,b2,hbG,WJ _ _ b3,I.bk _ _ b3,b4,b5,b6⟩;refine kla_eval hd ?_;rw[hq];rcases tb with tb|⟨c0,tb,tc⟩
 .have hP:s.heap.get? Pt=some (tabObj #[]):=I.dh _ _ tb;refine kla_makeFunction (mg:=X.mg) zA I.ok.glob WI qP (C.keeps I.bk) hP trivial rfl hgP Rp λc' mY h' tk hx L_ ie HP htb=>?_;have nc:H c'=none:=I.dh.fresh L_;have WK:c'≠Pt:=λz=>by rw[z,tb] at nc;cases nc
  have HQ:h'.get? Pt=some (tabObj #[rawInt pos.line,rawInt pos.col,.ref c']):=htb;generalize Rn:kla_obj "<lambda>" q params body scope [] ((X.mg "__name__").getD .none) c' mY=obj;have kp:∀b o,b≠Pt->s.heap.get? b=some o->(h'.push obj).get? b=some o:=λb o n e=>af _ (hx b o n e);have nP:∀b,H b=none->b≠Pt:=λb n z=>by rw[z,tb] at n;cases n
  have lt:∀b o,s.heap.get? b=some o->b≠c':=λb o e z=>by have:=aG e;rw[z] at this;exact absurd this (jQ.mpr L_)
  have g_:∀b,b≠Pt->b≠c'->upd (upd H c' (jM c' q)) Pt (.jT #[rawInt pos.line,rawInt pos.col,.ref c']) b=H b:=λb n1 n2=>by rw[bN n1,bN n2]
  have Fk:∀b u,H b=some u->b≠c':=λb u e z=>by rw[z,nc] at e;cases e
  have un:Un (nV X.stack) [] H (upd (upd H c' (jM c' q)) Pt (.jT #[rawInt pos.line,rawInt pos.col,.ref c'])) s.heap (h'.push obj):=by
   refine⟨λb o e n _ _=>kp b o (nP b n) e,λb o e n _ _=>⟨o.slots,kp b o (nP b n) e⟩,λb o e n _=>?_,λb o e _=>?_,λb xs e=>?_,λb o u e=>?_,λb ps e=>?_⟩
   .rw[g_ b (nP b n) (lt b o e)];exact n
   .by_cases z:b=Pt
    .subst z;exact⟨_,af _ HQ⟩
    .exact⟨_,kp b o z e⟩
   .rw[g_ b (λz=>by rw[z,tb] at e;cases e) (Fk b _ e)];exact e
   .rw[g_ b (λz=>by rw[z,tb] at e;cases e) (Fk b _ e)];exact e
   .by_cases z:b=Pt
    .subst z;rw[tb] at e;cases e;exact⟨#[rawInt pos.line,rawInt pos.col,.ref c'],ba⟩
    .exact⟨#[],by rw[g_ b z (Fk b _ e),e];simp⟩
  have dh:nU X.prog X.w (upd (upd H c' (jM c' q)) Pt (.jT #[rawInt pos.line,rawInt pos.col,.ref c'])) (h'.push obj):=λb u e=>by
   by_cases z:b=Pt
   .subst z;rw[ba] at e;cases e;exact af _ HQ
   .by_cases z2:b=c'
    .subst z2;rw[bN z,ba] at e;cases e;exact Ae (HP.push _)
    .rw[g_ b z z2] at e;refine(I.dh b u e).vP (λd v hd hv=>?_) (λd hd=>?_) (λd xs hd=>?_)
     .refine kp d v ?_ hv;rcases hd with rfl|hd
      .exact z
      .intro y;rw[y,tb] at hd;cases hd
     .rw[g_ d (λy=>by rw[y,tb] at hd;cases hd) (Fk d _ hd)];exact hd
     .rw[g_ d (λy=>by rw[y,tb] at hd;cases hd) (Fk d _ hd)];exact hd
  have J:=I.call (h':=h'.push obj) (g':=s.gens) (t':=tk) (d':=s.drawn) (ch:=[]) un dh I.bare (λb z=>absurd z ς);have WL:s.heap.objs.size<=h'.objs.size:=aB L_ (d7 ie);have nf:upd (upd H c' (jM c' q)) Pt (.jT #[rawInt pos.line,rawInt pos.col,.ref c']) h'.objs.size=none:=by have hs:s.heap.objs.size<=h'.objs.size:=aB L_ (d7 ie);have nh:H h'.objs.size=none:=I.dh.fresh hs;rw[g_ _ (nP _ nh) (fc ie)];exact nh
  refine k h'.objs.size c' mY ((X.mg "__name__").getD .none) _ _ J ?_ (HP.push _) nf (fc (aT I.lt WL)) (I.Gy WL) (by rw[bN WK,ba]) (λb o n e=>by rw[g_ b n (Fk b _ e)];exact e) (.inr ⟨c',ba,by rw[bN WK,ba]⟩);rw[<-Rn];exact av _ rfl
 .have hP:s.heap.get? Pt=some (tabObj #[rawInt pos.line,rawInt pos.col,.ref c0]):=I.dh _ _ tb;refine kla_makeFunctionHit (mg:=X.mg) (cv:=.ref c0) zA I.ok.glob WI qP (C.keeps I.bk) hP trivial (codeAmong_snoc [] trivial rfl) Rp λmY h' tk hk hsz=>?_;have J:=I.kept (h':=h'.push {cls:=.type "function",data:=.func (kla_fn "<lambda>" q params body scope [] ((X.mg "__name__").getD .none) (.ref c0) mY)}) (t':=tk) λb o e=>af _ (hk b o e);have mX:s.heap.CodeRec (.ref c0) q:=(I.dh _ _ tc).1;exact k h'.objs.size c0 mY ((X.mg "__name__").getD .none) H _ J (av _ rfl) ((mX.keeps hk).push _) (I.dh.fresh hsz) (fc (aT I.lt hsz)) (I.Gy hsz) tc (λ_ _ _ e=>e) (.inr ⟨c0,tb,tc⟩)
def RR (X:Cx) (ac:Aaa) (U:St) (Q:VK) (r:Result) (s':ar):Prop:=match r with| .ok (.ret v)=>EP X ac U Q v s'| .ok _=>False| .error e=>X.xe e s'
def gn.to {H H':Hp}{b:aq}{gM:Aaa}(f:gn X ac H b) (n:H' b=none):gn X ac H' b:=⟨n,f.2⟩
def gn.turn {H}(f:gn X ac H b) (I:Inv X ac U H s) (k:∀a o,a≠b->s.heap.get? a=some o->h'.get? a=some o):Inv X ac U H {s with heap:=h',toks:=tk}:=I.turned (it:=b) k f.1 f.2.1 f.2.2.2.1 f.2.2.2.2.1 f.2.2.2.2.2
structure Me (X:Cx) (ac:Aaa) (U:St) (f:aq) (xs:Aac) (bt:Nat->Nat->Bool) (Key:Nat->ai->Hp->Prop) (Iv:Hp->Prop):Prop where
 WM:∀i kv H H',bc H H'->Key i kv H->Key i kv H'
 OQ:∀H H',bc H H'->Iv H->Iv H'
 turn:∀(i:Nat) (v:V) (u:ai) (gM:Aaa) (H1:Hp) (s1:ar),xs[i]?=some v->RelV v u->(∀p∈ac,p∈gM)->Inv X gM U H1 s1->Iv H1->wpAny (model X.prog X.w) X.A.in1 (call (.ref f) [u]) (λkv s2=>∃H2,Inv X gM U H2 s2/\bc H1 H2/\Key i kv H2) (λ_ _=>False) s1
 cmp:∀(i j:Nat) (x y:ai) (gM:Aaa) (H1:Hp) (s1:ar),Inv X gM U H1 s1->Iv H1->Key i x H1->Key j y H1->nB X.A.in1 s1 x y (bt i j)
def Fl {Key:Nat->ai->Hp->Prop}(hh:X.A.handled=none) (M:Me X ac U f xs bt Key Iv) (WN:l≠I) (Rq:S≠I) (hlS:l≠S):
  ∀(k j:Nat) (s:ar) (H1:Hp) (vb kb:ai) (c:Nat),xs.length-(j+1)=k->j+1<=xs.length->Inv X ac U H1 s->H1 l=some (.lst xs)->Iv H1->gn X ac H1 I->gn X ac H1 S->s.heap.IsListIter I l (j+1)-> s.heap.get? S=some {cls:=.type "list",dict:=none,data:=.seq #[vb,kb] c,slots:=#[]}->(∃v,xs[argBest bt j]?=some v/\RelV v vb)->Key (argBest bt j) kb H1->(∀v H2,xs[argBest bt (xs.length-1)]?=some v->bc H1 H2->Q v H2)-> codeAny (model X.prog X.w) X.A (.builtin "min.loop" ⟨[.ref I,.ref f,.ref S],[]⟩) (RR X ac U Q) s:=by
 have nm:(toString "min"++toString ".loop":String)="min.loop":=δ;intro k;induction k with
 |zero=>
  intro j s H1 vb kb c hk hj Ii hl iv fI fS hit hS hb K0 q;have en:j+1=xs.length:=ω;obtain⟨bV,rv,pl,hz⟩:=Ii.list (gj.of hl);have WO:bV.toArray.size=xs.length:=by rw[aC];exact rv.length.symm
  have W:=jG (prog:=X.prog) (w:=X.w) (A:=X.A.in1) hh I l WN bV.toArray;refine cV sZ ?_;rw[cq fT _];show wpAny _ X.A.in1 (seqItems? (.ref S)>>=_) _ _ s;refine aa (b7 hS rfl ?_);show wpAny _ X.A.in1 (tryCatch (pyNext (.ref I)) _>>=_) _ _ s;refine aa (cg (W.done s _ _ ⟨by rw[WO,<-en];exact hit,pl.isList⟩ λh' tk kp=>?_));have WQ:=kp S _ (by simpa using Rq) hS;have I1:=fI.turn (h':=h') (tk:=tk) Ii λa o n e=>kp a o (by simpa using n) e;show wpAny _ X.A.in1 (updateSeq S (λ_=>#[])>>=_) _ _ _;refine aa ?_;refine eF WQ rfl (aa (dX (au ?_)));have I2:=fS.turn (h':=h'.update S (Obj.mapSeq λ_=>#[])) (tk:=tk) I1 λa o n e=>(aV _ _ (eJ n)).trans e;obtain⟨v,hv,r⟩:=hb;exact⟨v,H1,I2,r,q v H1 (by rw[<-en];exact hv) (bc.refl _)⟩
 |succ k ih=>
  intro j s H1 vb kb c hk hj Ii hl iv fI fS hit hS hb K0 q;have lt:j+1<xs.length:=ω;obtain⟨bV,rv,pl,hz⟩:=Ii.list (gj.of hl);have WO:bV.toArray.size=xs.length:=by rw[aC];exact rv.length.symm
  have W:=jG (prog:=X.prog) (w:=X.w) (A:=X.A.in1) hh I l WN bV.toArray;refine cV sZ ?_;rw[cq fT _];show wpAny _ X.A.in1 (seqItems? (.ref S)>>=_) _ _ s;refine aa (b7 hS rfl ?_);show wpAny _ X.A.in1 (tryCatch (pyNext (.ref I)) _>>=_) _ _ s;refine aa (cg (W.item (j+1) s _ _ (by rw[WO];exact lt) ⟨hit,pl.isList⟩ λv h' tk hP Rr kp=>?_));have hv:bV[j+1]?=some v:=by simpa using hP
  obtain⟨xv,Rt⟩:∃x,xs[j+1]?=some x:=⟨_,ag lt⟩;obtain⟨u,hu,ru⟩:=rv.get (i:=j+1) Rt;rw[hv] at hu;cases hu;obtain⟨oI,hoI,Qg,UL⟩:=id Rr.1;have WQ:=kp S _ (by simpa using Rq) hS;have I1:=fI.turn (h':=h') (tk:=tk) Ii λa o n e=>kp a o (by simpa using n) e;show wpAny _ X.A.in1 (tryCatch (holding [v] (call (.ref f) [v])) _>>=_) _ _ _;have I1':Inv X (ac++ [(I,oI),(S,{cls:=.type "list",dict:=none,data:=.seq #[vb,kb] c,slots:=#[]})]) U H1 {s with heap:=h',toks:=tk}:=I1.nW λp hp=>by
   rcases aX.mp hp with hp|hp
   .exact I1.pin p (aD _ hp)
   .simp only[aU,bF,eE] at hp;rcases hp with rfl|rfl
    .exact⟨hoI,fI.1,fI.2.1,fI.2.2.1,λv z=>by rw[UL] at z;cases z⟩
    .exact⟨WQ,fS.1,fS.2.1,fS.2.2.1,λv z=>by cases z⟩
  refine aa (cg (cf (aN (M.turn (j+1) xv v _ H1 _ Rt ru (λp hp=>bh _ hp) I1' iv) (λkv s2 he=>?_) λ_ _ hF=>hF.elim)));obtain⟨H2,I2,sm,kk⟩:=he;have pI:=I2.pin (I,oI) ς;have pS:=I2.pin (S,{cls:=.type "list",dict:=none,data:=.seq #[vb,kb] c,slots:=#[]}) ς;have I3:Inv X ac U H2 s2:=I2.gf;have iv2:=M.OQ _ _ sm iv;have aaY:s2.heap.IsListIter I l (j+1+1):=⟨oI,pI.1,Qg,UL⟩;have LP:=M.WM _ _ _ _ sm K0;show wpAny _ X.A.in1 (tryCatch (holding [v,kv] (richCompare .Lt kv kb>>=_)) _>>=_) _ _ _;refine aa (cg (cf (aa (M.cmp (j+1) (argBest bt j) kv kb _ _ s2 I2 iv2 kk LP _ _ _ _ ?_))));refine aa (cf (bB ?_));refine aa (dX (au ?_));cases better:bt (j+1) (argBest bt j) with
  |true=>simp only[jg];refine aa ?_;refine eF pS.1 rfl (aa (dX ?_));rw[nm];have I4:=(gn.to (gM:=ac) fS pS.2.1).turn (h':=s2.heap.update S (Obj.mapSeq λ_=>#[v,kv])) (tk:=s2.toks) I3 λa o n e=>(aV _ _ (eJ n)).trans e;refine au ⟨cP fT _,ih (j+1) _ H2 v kv _ ω lt I4 (sm _ _ hl) iv2 (gn.to (gM:=ac) fI pI.2.1) (gn.to (gM:=ac) fS pS.2.1) ⟨oI,(aV _ _ Rq).trans pI.1,Qg,UL⟩ (cF _ pS.1 rfl) ⟨xv,by simp only[argBest,better,jg];exact Rt,ru⟩ (by simp only[argBest,better,jg];exact kk) λv H3 e s3=>q v H3 e (sm.trans s3)⟩
  |false=>simp only[cQ,hV];refine aa (dX ?_);rw[nm];refine au ⟨cP fT _,ih (j+1) _ H2 vb kb c ω lt I3 (sm _ _ hl) iv2 (gn.to (gM:=ac) fI pI.2.1) (gn.to (gM:=ac) fS pS.2.1) aaY pS.1 (by simp only[argBest,better,cQ,hV];exact hb) (by simp only[argBest,better,cQ,hV];exact LP) λv H3 e s3=>q v H3 e (sm.trans s3)⟩
def w_ {H}{s}{Key:Nat->ai->Hp->Prop} (hh:X.A.handled=none) (M:Me X ac U f xs bt Key Iv) (Ii:Inv X ac U H s) (hl:H l=some (.lst xs)) (ne:xs≠[]) (iv:Iv H) (q:∀v H2,xs[argBest bt (xs.length-1)]?=some v->bc H H2->Q v H2):wpAny (model X.prog X.w) X.A (call (.builtin "min") [.ref l] [(Str.ofString "key",.ref f)]) (EP X ac U Q) X.xe s:=by
 have nm:(toString "min"++toString ".loop":String)="min.loop":=δ;obtain⟨bV,rv,pl,hz⟩:=Ii.list (gj.of hl);have WO:bV.toArray.size=xs.length:=by rw[aC];exact rv.length.symm
 have pos:0<xs.length:=jA.mpr ne;have ie:l<s.heap.objs.size:=by obtain⟨o,e,_⟩:=pl.isList;exact aG e
 refine Di F.kind_min Uq Ur (kmk_min_key _ _) ?_;show wpAny _ X.A.in1 (Builtin.Builtins.bindParams "min" ["key","default"] 0 ⟨[],[(Str.ofString "key",.ref f)]⟩>>=_) _ _ s;refine aa (tU (show Builtin.Builtins.bindParams "min" ["key","default"] 0 ⟨[],[(Str.ofString "key",.ref f)]⟩=pure [some (.ref f),none] from rfl) ?_);refine aa (au (aa (dQ pl.isList (aa (bS ?_)))));rw[nm];have sz:(s.heap.push {cls:=.type "list_iterator",data:=.fields #[.ref l,.int 0 0]}).objs.size=s.heap.objs.size+1:=bP ..;refine au ⟨cP cE _,?_⟩;show codeAny _ _ _ (RR X ac U Q) _;have hS0:=av (s.heap.push {cls:=.type "list_iterator",data:=.fields #[.ref l,.int 0 0]}) (o:={cls:=.type "list",dict:=none,data:=.seq #[] 0,slots:=#[]}) rfl;have hI0:((s.heap.push {cls:=.type "list_iterator",data:=.fields #[.ref l,.int 0 0]}).push {cls:=.type "list",dict:=none,data:=.seq #[] 0,slots:=#[]}).IsListIter s.heap.objs.size l 0:=⟨_,af _ (av _ rfl),rfl,rfl⟩;have J:=Ii.kept (h':=(s.heap.push {cls:=.type "list_iterator",data:=.fields #[.ref l,.int 0 0]}).push {cls:=.type "list",dict:=none,data:=.seq #[] 0,slots:=#[]}) (t':=s.toks) λb o e=>af _ (af _ e);have fI:gn X ac H s.heap.objs.size:=Ii.pL (ao _) (Ii.dh.fresh (ao _));have fS:gn X ac H (s.heap.objs.size+1):=Ii.pL (dg _) (Ii.dh.fresh (dg _));have OG:((s.heap.push {cls:=.type "list_iterator",data:=.fields #[.ref l,.int 0 0]}).push {cls:=.type "list",dict:=none,data:=.seq #[] 0,slots:=#[]}).IsList l bV.toArray:=pl.isList.at λo e=>af _ (af _ e);rw[sz] at hS0⊢;have WN:l≠s.heap.objs.size:=aW ie;have hlS:l≠s.heap.objs.size+1:=aW (b8 ie);have Rq:s.heap.objs.size+1≠s.heap.objs.size:=rB _;change Inv X ac U H {s with heap:=_} at J;generalize hg:(s.heap.push {cls:=.type "list_iterator",data:=.fields #[.ref l,.int 0 0]}).push {cls:=.type "list",dict:=none,data:=.seq #[] 0,slots:=#[]}=g at*;generalize s.heap.objs.size=I at*;have W:=jG (prog:=X.prog) (w:=X.w) (A:=X.A.in1) hh I l WN bV.toArray;refine cV sZ ?_;rw[cq fT _];show wpAny _ X.A.in1 (seqItems? (.ref (I+1))>>=_) _ _ _;refine aa (b7 hS0 rfl ?_);show wpAny _ X.A.in1 (tryCatch (pyNext (.ref I)) _>>=_) _ _ _;refine aa (cg (W.item 0 _ _ _ (by rw[WO];exact pos) ⟨hI0,OG⟩ λv h' tk hP Rr kp=>?_));have hv:bV[0]?=some v:=by simpa using hP
 obtain⟨xv,Rt⟩:∃x,xs[0]?=some x:=⟨_,ag pos⟩;obtain⟨u,hu,ru⟩:=rv.get (i:=0) Rt;rw[hv] at hu;cases hu;obtain⟨oI,hoI,Qg,UL⟩:=id Rr.1;have WQ:=kp (I+1) _ (by simpa using Rq) hS0;have I1:=fI.turn (h':=h') (tk:=tk) J λa o n e=>kp a o (by simpa using n) e;show wpAny _ X.A.in1 (tryCatch (holding [v] (call (.ref f) [v])) _>>=_) _ _ _;have I1':Inv X (ac++ [(I,oI),(I+1,{cls:=.type "list",dict:=none,data:=.seq #[] 0,slots:=#[]})]) U H {s with heap:=h',toks:=tk}:=I1.nW λp hp=>by
  rcases aX.mp hp with hp|hp
  .exact I1.pin p (aD _ hp)
  .simp only[aU,bF,eE] at hp;rcases hp with rfl|rfl
   .exact⟨hoI,fI.1,fI.2.1,fI.2.2.1,λv z=>by rw[UL] at z;cases z⟩
   .exact⟨WQ,fS.1,fS.2.1,fS.2.2.1,λv z=>by cases z⟩
 refine aa (cg (cf (aN (M.turn 0 xv v _ H _ Rt ru (λp hp=>bh _ hp) I1' iv) (λkv s2 he=>?_) λ_ _ hF=>hF.elim)));obtain⟨H2,I2,sm,kk⟩:=he;have pI:=I2.pin (I,oI) ς;have pS:=I2.pin (I+1,{cls:=.type "list",dict:=none,data:=.seq #[] 0,slots:=#[]}) ς;have I3:Inv X ac U H2 s2:=I2.gf;show wpAny _ X.A.in1 (updateSeq (I+1) (λ_=>#[v,kv])>>=_) _ _ _;refine aa ?_;refine eF pS.1 rfl ?_;rw[nm];have I4:=(gn.to (gM:=ac) fS pS.2.1).turn (h':=s2.heap.update (I+1) (Obj.mapSeq λ_=>#[v,kv])) (tk:=s2.toks) I3 λa o n e=>(aV _ _ (eJ n)).trans e;exact au ⟨cP fT _,Fl hh M WN Rq hlS _ 0 _ H2 v kv _ rfl pos I4 (sm _ _ hl) (M.OQ _ _ sm iv) (gn.to (gM:=ac) fI pI.2.1) (gn.to (gM:=ac) fS pS.2.1) ⟨oI,(aV _ _ Rq).trans pI.1,Qg,UL⟩ (cF _ pS.1 rfl) ⟨xv,Rt,ru⟩ kk λv H3 e s3=>q v H3 e (sm.trans s3)⟩
def Gg (h:Heap) (u:ai) (k:Int×Aab):Prop:=∃(t p:aq) (tok:Tok) (bV:Aad),u=.ref t/\IsTup h t #[.int k.1 tok,.ref p]/\IsTup h p bV.toArray/\StrsAre bV k.2
def Gg.lt {A}{s}(px:Gg s.heap x k) (py:Gg s.heap y k') (ox:∀z∈k.2,PyData.strOk z=true) (oy:∀z∈k'.2,PyData.strOk z=true) (hu:A.units+20<cLine):nB A s x y (cT k k'):=by
 obtain⟨a,p,t1,i1,rfl,h1,l1,s1⟩:=px;obtain⟨b,p',t2,i2,rfl,h2,l2,s2⟩:=py;refine rR h1 h2 ?_ ω;show Lex A.in1 s [.int k.1 t1,.ref p] [.int k'.1 t2,.ref p'] _;unfold cT;have hi:=kO (A:=A.in1) (s:=s) k.1 t1 k'.1 t2;by_cases e:k.1=k'.1
 .rw[aJ e];rw[show(k.1==k'.1)=true by simpa using e] at hi;refine .eq hi ?_;have lay:∀{ss:Aab},(∀z∈ss,PyData.strOk z=true)->PyData.canLay0 (.tuple (ss.map .str))=true:=λ{ss} h=>by
   rw[PyData.canLay0];induction ss with
   |nil=>rw[sY,PyData.canLayAll0]
   |cons n ns ih=>rw[bG,PyData.canLayAll0,cA];exact⟨by rw[PyData.canLay0];exact h n bT,ih λm hm=>h m (bJ _ hm)⟩
  have Wd:∀ss:Aab,(PyData.tuple (ss.map .str)).depth<=1:=λss=>by
   rw[PyData.depth];have:PyData.depthAll (ss.map .str)<=0:=jn λd hd=>by obtain⟨z,_,rfl⟩:=br.mp hd;simp[PyData.depth]
   omega
  obtain⟨as1,r1⟩:=ij (h:=s.heap) s1;obtain⟨as2,r2⟩:=ij (h:=s.heap) s2;obtain⟨ZS,g1,c1,n1,d1⟩:=id l1;obtain⟨ZT,g2,c2,n2,d2⟩:=id l2;have We:Reads s.heap (.ref p) (.tuple (k.2.map .str)) _:=.tuple g1 c1 d1 (by simpa using r1);have Wf:Reads s.heap (.ref p') (.tuple (k'.2.map .str)) _:=.tuple g2 c2 d2 (by simpa using r2);have hl:=PM _ _ A.in1 s _ _ _ _ We Wf (lay ox) (lay oy) (by have:=Wd k.2;have:A.in1.units<=A.units+8:=(by first|exact ao _|(show A.units+_<=_;omega));have:=mK (PyData.tuple (k.2.map .str)).depth (PyData.tuple (k'.2.map .str)).depth;omega);by_cases eo:k.2=k'.2
  .have e1:PyData.eqv (.tuple (k.2.map .str)) (.tuple (k'.2.map .str))=true:=by rw[qM,aZ eo]
   rw[e1] at hl;rw[eo,nF];exact .eq hl .nn
  .have e1:PyData.eqv (.tuple (k.2.map .str)) (.tuple (k'.2.map .str))=false:=by rw[qM,bw eo]
   rw[e1] at hl;refine .lt hl ?_;exact rR l1 l2 (by simpa using nE s1 s2) (by have:A.in1.units<=A.units+8:=(by first|exact ao _|(show A.units+_<=_;omega));omega)
 .rw[aI e];rw[show(k.1==k'.1)=false by simpa using e] at hi;exact .lt hi (nB.int k.1 t1 k'.1 t2)
def HR {k:Nat}{f c:aq}{name q:Str}{params:Arguments}{body:Expr}{scope:Scope}{pm mY:ai}{N:Aab}{x:Str}{u:ai}{v:V}{H:Hp}{s:ar}{Q:VK}{vD:TE}(S:bx N [x] scope) (hr:eS (k+2) X.A) (I:Inv X ac U H s) (hf:(f,kla_obj name q params body scope [] pm c mY)∈ac) (hc:H c=some (jM c q)) (rv:RelV v u) (hb:∀(s:ar) (u:ai),BindsTo s (kla_fn name q params body scope [] pm (.ref c) mY) ⟨[u],[]⟩ [(x,u)]) (iS:∀(A:bL) (outer:List Env) (s:ar) (H:Hp),eS k (A.deeper (envOfC q scope s.heap.objs.size f (.ref c)))->PE (jC fK X.prog X.w X.K X.mg X.base N q scope f (.ref c) A outer s H E0) body vD) (h:vD (start N [v]) H Q):
  wpAny (model X.prog X.w) X.A.in1 (call (.ref f) [u]) (EP X ac U Q) (λ_ _=>False) s:=by
 have mX:s.heap.CodeRec (.ref c) q:=(I.dh _ _ hc).1;have ho:=(I.pin _ (aD _ hf)).1;refine m7 (iM (L8 (k:=k) S ho mX hr.in1 I.EG.in1 (hb s u) rfl (.cons rv .nil) λvY=>⟨vD,iS _ _ _ _ vY,h⟩) λr s' hq=>?_);cases r with
 |error e=>exact hq
 |ok fl=>
  cases fl with
  |ret u'=>exact I.after hq
  |next=>exact False.elim hq
  |brk=>exact False.elim hq
  |cont=>exact False.elim hq
def OR (Pt:aq) (mr:Pos) (q:Str) (N:Aab) (vD:TE) (Q:VK) (vs:Aac) (H1:Hp):Prop:=∃(l:aq) (xs:Aac) (ks:List (Int×Aab)),vs=[.ref l]/\H1 l=some (.lst xs)/\xs≠[]/\xs.length=ks.length/\(∀k∈ks,∀z∈k.2,PyData.strOk z=true)/\TabAt H1 Pt mr q/\l≠Pt/\ (∀(i:Nat) (v:V) (k:Int×Aab) (H3:Hp),xs[i]?=some v->ks[i]?=some k->cX Pt H1 H3->vD (start N [v]) H3 λkv H4=>bc H3 H4/\∃t p,kv=.ref t/\H4 t=some (.tup [.int k.1,.ref p])/\H4 p=some (.tup (k.2.map V.str)))/\ ∀(i:Nat) (v:V) (k:Int×Aab) (H3:Hp),xs[i]?=some v->ks[i]?=some k->(∀k'∈ks,cT k' k=false)->cX Pt H1 H3->TabAt H3 Pt mr q->Q v H3
def WR (Pt:aq) (mr:Pos) (q:Str) (N:Aab) (vD te:TE):TE:=λU H Q=>te U H λy H1=>OR Pt mr q N vD Q [y] H1
def Mf (hc:X.calm=true) (hg:Gl X "min") (hm:X.mg "min"=none) (hr:eS (k+2) X.A) (qP:X.env.code=.ref c) (C:CodeHd X.base c Pt) (B:tz X.base X.mg) (hq:X.env.qual++"<lambda>"=q) (hd:defaultsOf params X.env=([],[])) (zA:closureFor scope X.env=pure []) (S:bx N [x] scope) (hb:∀(pm:ai) (c:aq) (mY:ai) (s:ar) (u:ai),BindsTo s (kla_fn "<lambda>" q params body scope [] pm (.ref c) mY) ⟨[u],[]⟩ [(x,u)]) (iS:∀(f c:aq) (A:bL) (outer:List Env) (s:ar) (H:Hp),eS k (A.deeper (envOfC q scope s.heap.objs.size f (.ref c)))->PE (jC fK X.prog X.w X.K X.mg X.base N q scope f (.ref c) A outer s H E0) body vD) (he:PE X e te) (hs:starEach [e] X.env=[(false,eval e X.env)]:=by rfl):
  PE X (.Call (.Name "min" p) [e] [⟨some "key",.Lambda params body scope mr,G6⟩] pos) (WR Pt mr q N vD te):=by
 intro ac s U H Q I h;have pa:PA X [e] (dF te gk):=ae he aj (by rw[hs];rfl);refine eX (kQ I hg hm boot_min ?_ δ δ);refine callWith_kw (dq (pa pos ac s U H (OR Pt mr q N vD Q) I h) λus s1 ⟨vs,H1,I1,r1,l,xs,ks,e1,hl,ne,len,Kl,tb,lP,turn,fin⟩=>?_) (by rw[hs];rfl) (by rw[hs];rfl)
 .subst e1;obtain⟨u,rfl,ru⟩:=mB r1;cases(show u=Value.ref l from ru);show wpAny _ _ (evalAll ((do let v<-eval (.Lambda params body scope mr) X.env;standAt pos;pure v):: [])) _ _ s1;refine Gr (aa (HN I1 qP C B tb hq hd zA λf c' mY pm H2 s2 I2 hf mX nf fl ff ze kp Ru=>aa (dP (au (au ?_)))));have I3:Inv X (ac++ [(f,kla_obj "<lambda>" q params body scope [] pm c' mY)]) U H2 s2:=I2.nW λp hp=>by
   rcases aX.mp hp with hp|hp
   .exact I2.pin p (aD _ hp)
   .rw[aK.mp hp];exact⟨hf,nf,fl,ff,λv z=>by cases z⟩
  have M:Me X (ac++ [(f,kla_obj "<lambda>" q params body scope [] pm c' mY)]) U f xs (λi j=>cT (ks.getD i (0,[])) (ks.getD j (0,[]))) (λi u H=>∃k t p,ks[i]?=some k/\u=.ref t/\H t=some (.tup [.int k.1,.ref p])/\H p=some (.tup (k.2.map V.str))) (λH=>cX Pt H1 H/\H c'=some (jM c' q)/\TabAt H Pt mr q):=by
   refine⟨λi u Ha Hb sm ⟨k,t,p,h1,h2,h3,h4⟩=>⟨k,t,p,h1,h2,sm _ _ h3,sm _ _ h4⟩,λHa Hb sm ⟨h1,h2,h3⟩=>⟨λb o n e=>sm _ _ (h1 b o n e),sm _ _ h2,h3.same sm⟩,λi v u gM Ha sa hv ru' sub Ia ⟨k1,k2,k3⟩=>?_,λi j x y gM Ha sa Ia _ ⟨k,t,p,h1,h2,h3,h4⟩ ⟨k',t',p',WT,Ke,h3',h4'⟩=>?_⟩
   .have hi:i<ks.length:=by rw[<-len];exact(aF.mp hv).1
    have hk:=ag hi;refine dq (HR (k:=k) S hr Ia (sub _ ς) k2 ru' (hb pm c' mY) (λA outer s H=>iS f c' A outer s H) (turn i v _ Ha hv hk k1)) λkv s' hq=>?_;obtain⟨v',H4,I4,rk,sm,t,p,e1,e2,e3⟩:=hq;subst e1;cases(show kv=Value.ref t from rk);exact⟨H4,I4,sm,_,t,p,hk,rfl,e2,e3⟩
   .have gd:∀{i:Nat} {k:Int×Aab},ks[i]?=some k->ks.getD i (0,[])=k:=λe=>by rw[aw,e];rfl
    try dsimp only
    rw[gd h1,gd WT];have pr:∀{u:ai} {k:Int×Aab} {t p:aq},u=.ref t->Ha t=some (.tup [.int k.1,.ref p])->Ha p=some (.tup (k.2.map V.str))->Gg sa.heap u k:=λ{u k t p} e g1 g2=>by
     obtain⟨i1,r1,p1,_⟩:=Ia.tuple (iY.of g1);obtain⟨i2,r2,p2,_⟩:=Ia.tuple (iY.of g2);cases r1 with
     |cons ra rb=>
      cases rb with
      |cons rc rd=>cases rd;obtain⟨tok,rfl⟩:=ra;cases rc;exact⟨t,p,tok,i2,e,p1,p2,iy r2⟩
    exact Gg.lt (pr h2 h3 h4) (pr Ke h3' h4') (Kl _ (aY h1)) (Kl _ (aY WT)) (by have:=hr.un;show X.A.units+1+20<_;omega)
  have aaZ:0<xs.length:=jA.mpr ne;have QG:H2 l=some (.lst xs):=kp _ _ lP hl;refine dq (w_ (Q:=Q) (I.ok.hd hc) M I3 QG ne ⟨kp,ze,Ru⟩ λv H3 hv sm=>?_) λv s' hq=>?_
  .have b:=qL cT mo (λ_ _ _=>iW) (λi=>ks.getD i (0,[])) (xs.length-1);have hi:argBest (λi j=>cT (ks.getD i (0,[])) (ks.getD j (0,[]))) (xs.length-1)<ks.length:=by have:=b.1;omega
   refine fin _ v _ H3 hv (ag hi) (λk' LV=>?_) (λb o n e=>sm _ _ (kp b o n e)) (Ru.same sm);obtain⟨j,hj,rfl⟩:=mV LV;have:=b.2 j ω;try dsimp only at this
   rw[show ks.getD j (0,[])=ks[j] by rw[aw,ag hj];rfl] at this;rw[aw,ag hi] at this;exact this
  .obtain⟨v',H',I',r',q'⟩:=hq;exact⟨v',H',I'.gf,r',q'⟩
end
def cY.Fm {X:Cx}{scope:Scope}{nm:List (Str×NameKind)}(vs:Aab) {fr:Str}{j:Nat}(hN:X.N[j]?=some fr) (hk:scope.kind=.function) (hn:scope.names=nm) (h1:X.env.scope.names.lookup fr=some .cell\/X.env.scope.names.lookup fr=some .free) (c1:∀y∈nm,y.2≠.cell) (c2:∀y∈nm,y.2=.local->nm.lookup y.1=some .local) (c3:∀y∈nm,y.2=.free->y.1=fr) (c4:(fr,NameKind.free)∈nm) (c5:nm.lookup fr=some .free):cY X scope (vs++ [fr]) (vs.map (λ_=>none)++ [some j]) where
 kind:=hk
 jm:=by rw[hn];exact c1
 own:=by rw[hn];exact c2
 out:=by rw[hn];intro y hy e;rw[c3 y hy e];exact h1
 len:=ς
 free:=by
  intro i j' x e1 e2;rw[hn];by_cases hi:i<vs.length
  .rw[fq (by simpa using hi),aR,ag hi] at e1;cases e1
  .rw[dB (by simpa using hi),ah] at e1;rw[dB (by simpa using hi)] at e2;cases hz:i-vs.length with
   |zero=>rw[hz] at e1 e2;cases e1;cases e2;exact⟨hN,c4,c5⟩
   |succ n=>rw[hz] at e1;simp at e1
def cY.Mg {X:Cx}{scope:Scope}{nm:List (Str×NameKind)}(vs:Aab) {fr fs:Str}{j k:Nat}(hN:X.N[j]?=some fr) (hM:X.N[k]?=some fs) (hk:scope.kind=.function) (hn:scope.names=nm) (h1:X.env.scope.names.lookup fr=some .cell\/X.env.scope.names.lookup fr=some .free) (h2:X.env.scope.names.lookup fs=some .cell\/X.env.scope.names.lookup fs=some .free) (c1:∀y∈nm,y.2≠.cell) (c2:∀y∈nm,y.2=.local->nm.lookup y.1=some .local) (c3:∀y∈nm,y.2=.free->y.1=fr\/y.1=fs) (c4:(fr,NameKind.free)∈nm) (c5:nm.lookup fr=some .free) (c6:(fs,NameKind.free)∈nm) (c7:nm.lookup fs=some .free):cY X scope (vs++ [fr,fs]) (vs.map (λ_=>none)++ [some j,some k]) where
 kind:=hk
 jm:=by rw[hn];exact c1
 own:=by rw[hn];exact c2
 out:=by
  rw[hn];intro y hy e;rcases c3 y hy e with z|z
  .rw[z];exact h1
  .rw[z];exact h2
 len:=ς
 free:=by
  intro i j' x e1 e2;rw[hn];by_cases hi:i<vs.length
  .rw[fq (by simpa using hi),aR,ag hi] at e1;cases e1
  .rw[dB (by simpa using hi),ah] at e1;rw[dB (by simpa using hi)] at e2
   match hz:i-vs.length,e1,e2 with
   |0,e1,e2=>cases e1;cases e2;exact⟨hN,c4,c5⟩
   |1,e1,e2=>cases e1;cases e2;exact⟨hM,c6,c7⟩
   |n+2,e1,e2=>simp at e1
section
open PySem.SeqAt
open AutoSeq1 (wpAny_loadPart')
open PySem.MeetsSeq PySem.MeetsSeq2 PySem.MeetsSeq3
end
section
open PySem.SeqAt
open PySem.MeetsSeq PySem.MeetsSeq2 PySem.MeetsSeq3
end
def top (i:Nat):Stmt:=Challenge.pw_rowtrim_k26_told_things_handed_on.main.body.getD i (.Pass ⟨0,0,0,0⟩)
abbrev B_:Stmt:=top 13
abbrev HS:Stmt:=top 14
abbrev yf:Stmt:=top 30
abbrev Ca:Stmt:=top 31
structure Txt (mg:Aae):Prop where
 ValueError:mg "ValueError"=none
 abs:mg "abs"=none
 all:mg "all"=none
 any:mg "any"=none
 bool:mg "bool"=none
 enum:mg "enumerate"=none
 int:mg "int"=none
 Rv:mg "isinstance"=none
 len:mg "len"=none
 list:mg "list"=none
 max:mg "max"=none
 min:mg "min"=none
 range:mg "range"=none
 sorted:mg "sorted"=none
 str:mg "str"=none
 sum:mg "sum"=none
 tuple:mg "tuple"=none
 zip:mg "zip"=none
 LN:∃t,mg "LONGEST_NAME"=some (.int 8 t)
 MC:∃t,mg "MOST_IN_CREW"=some (.int 4 t)
 LG:∃t,mg "LONGEST"=some (.int 1000000000 t)
 HV:∃t,mg "HEAVIEST"=some (.int 1000000 t)
 MR:∃t,mg "MOST_ROWERS"=some (.int 8 t)
def Df (P:aQ) (w:bg) (K:Φ) (mg:Aae) (base:Heap) (k:Nat) (x:Str) (ps:Aab) (sp:Sp):Prop:=∃f fd,cG P w K mg base fK k f fd ps sp/\Binds K fd ps []/\PySem.W.keepIn K (.ref f)=true/\mg x=some (.ref f)
def HU (D:Df X.prog X.w X.K X.mg X.base k x ps sp) (hr:eS k X.A) (ha:PA X (e::es) t) (hg:Gl X x:=by rfl) (s_:(x==("__debug__":Str))=false:=by decide) (he:starEach (e::es) X.env=(false,eval e X.env)::starEach es X.env:=by rfl) (sC:(backTo pos (starEach es X.env)).any (·.1)=false:=by rfl):PE X (.Call (.Name x p) (e::es) [] pos) (CZ sp [] E0 t):=by obtain⟨f,fd,F,b,kp,m⟩:=D;exact C0 F hr hg m kp b .nil wH ha s_ he sC
def OS (p:PyData->Bool):Sp:=λvs H Q _=>∃k d v,vs=[v]/\Tells H k d v/\QT d/\∀H',bc H H'->Q (.bl (p d)) H'
def yg:PyData->Bool
 | .int _=>true
 |_=>false
def Fn (d:PyData):(wL d "int"&& !wL d "bool")=yg d:=by cases d<;>rfl
def scW:bx ["thing"] ["thing"] (aP B_):={}
def HW (F:gX K "is_whole" "is_whole" B_ f fd) (T:Txt mg):cG P w K mg base fK 1 f fd ["thing"] (OS yg):=by
 refine F.ok scW (λvs H Q E h=>?_) (λeU A outer s H vs Q E hr h=>?_)
 .obtain⟨k,d,v,rfl,_⟩:=h;rfl
 .obtain⟨k,d,v,rfl,t,_,q⟩:=h;refine⟨_,aO (bK (xG (bj lH rfl T.Rv dY (ae (pv 0) (ae (nY (v:=.ty "int") rfl T.int boot_int rfl) aj))) (ma (Qh (bj lH rfl T.Rv dY (ae (pv 0) (ae (nY (v:=.ty "bool") rfl T.bool boot_bool rfl) aj))))))),?_⟩;refine⟨_,rfl,k,_,_,d,rfl,t,.inl rfl,_,rfl,?_⟩;have e:=Fn d;refine oJ (λc=>?_) (λc=>?_)
  .refine⟨_,rfl,k,_,_,d,rfl,t,.inr (.inl rfl),_,rfl,?_⟩;rw[c,jI] at e;rw[e];exact q H (bc.refl _)
  .rw[show wL d "int"=false by simpa using c,gi] at e;rw[e];exact q H (bc.refl _)
def cY.closed (hk:scope.kind=.function) (h1:∀y∈scope.names,y.2≠.cell:=by decide+kernel) (h2:∀y∈scope.names,y.2=.local->scope.names.lookup y.1=some .local:=by decide+kernel) (h3:∀y∈scope.names,y.2≠.free:=by decide+kernel):cY X scope N (N.map λ_=>none):=⟨hk,h1,h2,λy hy e=>absurd e (h3 y hy),ah _,λi j x e _=>by
  rw[aR] at e;cases h:N[i]? with
  |none=>rw[h] at e;cases e
  |some z=>rw[h] at e;cases e⟩
def Z0 (x:Str):([x]:Aab).Nodup:=ς
def sgn (c:Nat):Bool:=(!decide ((⟨#[c]⟩:Str).cps.toList<("a":Str).cps.toList))&&(!decide (("z":Str).cps.toList<(⟨#[c]⟩:Str).cps.toList))
def lK:PyData->Bool
 | .str x=>(decide (1<=(x.length:Int))&&decide ((x.length:Int)<=8))&&(x.cps.toList.map sgn).all id
 |_=>false
def Mh (h:wL d "str"=true):∃x,d=.str x:=by
 cases d with
 |str x=>exact⟨x,rfl⟩
 |none=>cases h
 |bool b=>cases h
 |int i=>cases h
 |list ds=>cases h
 |tuple ds=>cases h
 |dict kvs=>cases h
def Mi (x:Str) (i:Nat) (H:Hp) (hi:i<=x.cps.size):(i=x.cps.size->(QR x).stop i H)/\(i<x.cps.size->(QR x).go i H/\∀y H',(QR x).vR i H y H'->H'=H/\y=.str ⟨#[x.cps.getD i 0]⟩):=by refine⟨λe=>e,λe=>⟨e,λy H' q=>?_⟩⟩;obtain⟨q1,c,q2,q3⟩:=q;refine⟨q1,?_⟩;rw[q3];simp[Array.getD,e,(i_.mp q2).2]
def Fo {x:Str}(h:i<x.cps.size):x.cps.toList.take (i+1)=x.cps.toList.take i++ [x.cps.getD i 0]:=by rw[bM];congr 1;simp[Array.getD,h]
def scN:bx ["thing"] ["thing"] (aP HS):={}
def Mj (F:gX K "is_name" "is_name" HS f fd) (T:Txt mg):cG P w K mg base fK 1 f fd ["thing"] (OS lK):=by
 refine F.ok scN (λvs H Q E h=>?_) (λeU A outer s H vs Q E hr h=>?_)
 .obtain⟨k,d,v,rfl,_⟩:=h;rfl
 .obtain⟨k,d,v,rfl,t,hf,q⟩:=h;obtain⟨tl,hLN⟩:=T.LN;refine⟨_,az (zh (PW.pt (Oq (ib (GC (bj lH rfl T.Rv dY (ae (pv 0) (ae (nY (v:=.ty "str") rfl T.str boot_str rfl) aj))))) (pK (ib (GW qw qw aH (bj xP rfl T.len bY (ae (pv 0) aj)) (l_ (v:=.int 8) rfl hLN ⟨tl,rfl⟩)))))) (aO (bK o6)) cj) (aO (bK (bj (zC rfl) rfl T.all uq (ae (gm (N:=["letter"]) rfl (QS (pv 0)) (cY.closed rfl) (λ_ _ _=>aM (i:=0) (Z0 _)) (λ_ _ _=>eD) (λ_ _ _=>zj wN wN f_ (pv 0) f_)) aj)))),?_⟩;refine⟨_,rfl,k,_,_,d,rfl,t,.inr (.inr (.inl rfl)),_,rfl,?_⟩;refine oJ (λc=>?_) (λc=>?_)
  .refine QL ?_;have e:lK d=false:=by
    cases d with
    |str x=>cases c
    |_=>rfl
   have:=q H (bc.refl _);rw[e] at this;exact this
  .obtain⟨x,rfl⟩:=Mh (d:=d) (by simpa using c);rw[gU] at t;subst t;have hl:=Bd.QU hf;refine⟨_,rfl,x,rfl,aB hl δ,_,_,rfl,rfl,_,rfl,?_⟩;show if decide (1<=(x.length:Int))=true then _ else _;refine oJ (λc1=>?_) (λc1=>?_)
   .refine⟨_,_,rfl,rfl,_,rfl,?_⟩;refine oJ (λc2=>?_) (λc2=>?_)
    .have e:lK (.str x)=false:=by
      have c2':decide ((x.length:Int)<=8)=false:=by simpa using c2
      show((decide (1<=(x.length:Int))&&decide ((x.length:Int)<=8))&&_)=false;rw[c2',KA,gi]
     have:=q H (bc.refl _);rw[e] at this;exact this
    .have c2':decide ((x.length:Int)<=8)=true:=by simpa using c2
     refine⟨_,rfl,x,rfl,λD hD=>?_⟩;refine Hk (J:=QR x) (n:=x.cps.size) (f:=λi=>.str ⟨#[x.cps.getD i 0]⟩) (λi ys de H'=>ys=((x.cps.toList.take i).map sgn).map V.bl/\(∃v,de=[v])/\H'=upd H D (.lst ys)) hD (by have:x.cps.size=x.length:=rfl;omega) ⟨rfl,⟨none,rfl⟩,rfl⟩ (λi ys de H' hi _ _=>Mi x i H' hi) ?_ ?_
     .rintro i ys de H' hi hy ⟨e1,⟨v,rfl⟩,rfl⟩;refine⟨_,rfl,_,_,rfl,rfl,_,rfl,?_⟩;have step:∀b,sgn (x.cps.getD i 0)=b->(upd H D (.lst ys)) D=some (.lst ys)/\((ys++ [V.bl b])=((x.cps.toList.take (i+1)).map sgn).map V.bl/\(∃v,([some (V.str ⟨#[x.cps.getD i 0]⟩)]:St)=[v])/\upd (upd H D (.lst ys)) D (.lst (ys++ [V.bl b]))=upd H D (.lst (ys++ [V.bl b]))):=λb hb=>by refine⟨hy,?_,⟨_,rfl⟩,KL⟩;rw[Fo hi,e1,bC,bC,<-hb];rfl
      refine oJ (λc3=>?_) (λc3=>?_)
      .refine⟨_,_,rfl,rfl,?_⟩;refine step _ ?_;show(_&&_)=_;rw[c3,jI]
      .refine step false ?_;show(_&&_)=_;rw[show(!decide ((⟨#[x.cps.getD i 0]⟩:Str).cps.toList<("a":Str).cps.toList))=false by simpa using c3,gi]
     .rintro ys de H' hy ⟨e1,⟨v,rfl⟩,rfl⟩;rw[fQ ς] at e1;refine⟨D,(x.cps.toList.map sgn),rfl,gj.of (by rw[hy,e1]),?_⟩;have:=q (upd H D (.lst ys)) (bZ hD _);rw[show lK (.str x)=(x.cps.toList.map sgn).all id by show((decide (1<=(x.length:Int))&&decide ((x.length:Int)<=8))&&_)=_;rw[c1,c2',jI,jI]] at this;exact this
   .refine⟨_,rfl,QL ?_⟩;have e:lK (.str x)=false:=by
     have c1':decide (1<=(x.length:Int))=false:=by simpa using c1
     show((decide (1<=(x.length:Int))&&decide ((x.length:Int)<=8))&&_)=false;rw[c1',gi,gi]
    have:=q H (bc.refl _);rw[e] at this;exact this
def aa0 {x y:V}(h:(!decide (x=y))=true):x≠y:=λe=>by rw[aZ e] at h;cases h
def v_eq {x y:V}(h:¬(!decide (x=y))=true):x=y:=by
 by_cases e:x=y
 .exact e
 .exact absurd (by rw[bw e];rfl) h
def mv:PyData->Bool
 | .int i=>decide (1<=i)&&decide (i<=1000000)
 |_=>false
def aa1:bx ["thing"] ["thing"] (aP yf):={}
def Fp (F:gX K "is_weight" "is_weight" yf f fd) (T:Txt mg) (DW:Df P w K mg base 1 "is_whole" ["thing"] (OS yg)):cG P w K mg base fK 2 f fd ["thing"] (OS mv):=by
 refine F.ok aa1 (λvs H Q E h=>?_) (λeU A outer s H vs Q E hr h=>?_)
 .obtain⟨k,d,v,rfl,_⟩:=h;rfl
 .obtain⟨k,d,v,rfl,t,hf,q⟩:=h;obtain⟨th,hHV⟩:=T.HV;refine⟨_,aO (bK (xG (HU DW hr (ae (pv 0) aj)) (ma (zj qw qw aH (pv 0) (l_ (v:=.int 1000000) rfl hHV ⟨th,rfl⟩))))),?_⟩;refine⟨_,rfl,k,d,v,rfl,t,hf,λH1 s1=>⟨_,rfl,?_⟩⟩;refine oJ (λc=>?_) (λc=>?_)
  .cases d with
   |int i=>
    rw[iw] at t;subst t;refine⟨_,rfl,_,_,rfl,rfl,_,rfl,?_⟩;have q':=q H1 s1;refine oJ (λc1=>?_) (λc1=>?_)
    .refine⟨_,_,rfl,rfl,?_⟩;rw[show mv (.int i)=decide (i<=1000000) by show(_&&_)=_;rw[c1,jI]] at q';exact q'
    .rw[show mv (.int i)=false by show(_&&_)=_;rw[show decide (1<=i)=false by simpa using c1,gi]] at q';exact q'
   |_=>cases c
  .have e:mv d=false:=by
    cases d with
    |int i=>exact absurd rfl c
    |_=>rfl
   have q':=q H1 s1;rw[e] at q';exact q'
def yh:List PyData:=[.str "port",.str "starboard",.str "both"]
def pR (s:PyData):Bool:=yh.any λz=>PyData.eqv z s
def uV:PyData->Bool
 | .tuple [n,s,w]=>lK n&&(pR s&&mv w)
 |_=>false
def Cb (h:ds.length≠3):uV (.tuple ds)=false:=by
 match ds,h with
 | [],_=>rfl
 | [_],_=>rfl
 | [_,_],_=>rfl
 | [_,_,_],h=>exact absurd rfl h
 |_::_::_::_::_,_=>rfl
def Fq (h:wL d "tuple"=true):∃ds,d=.tuple ds:=by
 cases d with
 |tuple ds=>exact⟨ds,rfl⟩
 |none=>cases h
 |bool b=>cases h
 |int i=>cases h
 |list ds=>cases h
 |str x=>cases h
 |dict kvs=>cases h
def Cc:PyData.canLayAll0 yh=true:=η
def Af {H}(hp:p≠k):Tells (upd H p (.tup [.str "port",.str "starboard",.str "both"])) k (.tuple yh) (.ref p):=eP.mpr ⟨p,_,rfl,hp,ba,cy.mpr ⟨_,_,rfl,gU.mpr rfl,cy.mpr ⟨_,_,rfl,gU.mpr rfl,xW (gU.mpr rfl)⟩⟩⟩
def aa2 {α:Type}{ds:List α}(h:ds.length=3):∃a b c,ds=[a,b,c]:=by
 match ds,h with
 | [a,b,c],_=>exact⟨a,b,c,rfl⟩
def Z1:bx ["thing","name","sides","weight"] ["thing"] (aP Ca):={}
def HX (F:gX K "is_rower" "is_rower" Ca f fd) (T:Txt mg) (DN:Df P w K mg base 2 "is_name" ["thing"] (OS lK)) (DW:Df P w K mg base 2 "is_weight" ["thing"] (OS mv)):cG P w K mg base fK 3 f fd ["thing"] (OS uV):=by
 refine F.ok Z1 (λvs H Q E h=>?_) (λeU A outer s H vs Q E hr h=>?_)
 .obtain⟨k,d,v,rfl,_⟩:=h;rfl
 .obtain⟨k,d,v,rfl,t,hf,q⟩:=h;refine⟨_,az (zh (PW.pt (Oq (ib (GC (bj lH rfl T.Rv dY (ae (pv 0) (ae (nY (v:=.ty "tuple") rfl T.tuple bO rfl) aj))))) (pK (qx Ow (bj qC rfl T.len bY (ae (pv 0) aj)) aH (cO _))))) (aO (bK o6)) cj) (az (iP (pv 0) (GH rfl (qu (aM (i:=1) Z1.nd) (qu (aM (i:=2) Z1.nd) (qu (aM (i:=3) Z1.nd) CQ))))) (aO (bK (xG (HU DN hr (ae (pv 1) aj)) (xG (jt (QQ hr.units) (pv 2) (uz (ae f_ (ae f_ (ae f_ aj)))) (by with_unfolding_all rfl)) (ma (HU DW hr (ae (pv 3) aj)))))))),?_⟩;refine⟨_,rfl,k,_,_,d,rfl,t,.inr (.inr (.inr (.inl rfl))),_,rfl,?_⟩;have no:uV d=false->Q (.bl false) H:=λe=>by have:=q H (bc.refl _);rw[e] at this;exact this
  refine oJ (λc=>?_) (λc=>?_)
  .refine QL (no ?_);cases d with
   |tuple ds=>cases c
   |_=>rfl
  .obtain⟨ds,rfl⟩:=Fq (d:=d) (by simpa using c);obtain⟨a,xs,rfl,hk,ha,Ml⟩:=eP.mp t;have hl:=qG Ml;refine⟨_,rfl,a,xs,rfl,.inr (iY.of ha),rfl,_,rfl,?_⟩;refine oJ (λc1=>?_) (λc1=>?_)
   .refine no ?_;have:ds.length≠3:=λz=>aa0 c1 (by rw[hl,z];rfl);exact Cb this
   .have l3:ds.length=3:=by have e3:V.int (xs.length:Int)=V.int 3:=v_eq c1;injection e3 with e3;omega
    obtain⟨dn,WU,dw,rfl⟩:=aa2 l3;obtain⟨x1,r1,rfl,t1,Ml⟩:=cy.mp Ml;obtain⟨x2,r2,rfl,t2,Ml⟩:=cy.mp Ml;obtain⟨x3,r3,rfl,t3,Ml⟩:=cy.mp Ml;rw[fL] at Ml;subst Ml;have hfs:=(Bd.Lo hf).1;refine⟨_,rfl,a,_,rfl,iY.of ha,rfl,_,_,rfl,_,_,rfl,_,_,rfl,rfl,?_⟩;refine⟨_,rfl,k,dn,x1,rfl,t1,hfs dn ς,λH1 s1=>⟨_,rfl,?_⟩⟩;have q':∀H',bc H H'->Q (.bl (lK dn&&(pR WU&&mv dw))) H':=q;refine oJ (λc2=>?_) (λc2=>?_)
    .refine⟨_,rfl,Bh,λp hp=>?_⟩;have hpk:∀b o,H b=some o->b≠p:=λb o e=>h_ (s1 b o e) hp;have s2:bc H1 (upd H1 p (.tup [.str "port",.str "starboard",.str "both"])):=bZ hp _;refine⟨k,a,WU,yh,t2.keep (s1.trans s2).keep,.inl (Af (hpk a _ ha).symm),QT.lay (hfs WU ς),Cc,⟨_,rfl,?_⟩⟩;refine oJ (λc3=>?_) (λc3=>?_)
     .refine⟨_,rfl,k,dw,x3,rfl,t3.keep (s1.trans s2).keep,hfs dw ς,λH3 s3=>?_⟩;have:=q' H3 ((s1.trans s2).trans s3);rw[c2,show pR WU=true from c3,jI,jI] at this;exact this
     .have:=q' _ (s1.trans s2);rw[show pR WU=false by simpa[pR] using c3,gi,KA] at this;exact this
    .have:=q' H1 s1;rw[show lK dn=false by simpa using c2,gi] at this;exact this
def fE (ns:Aab):List PyData:=ns.map .str
def gR {H}:∀ns:Aab,cW H k (fE ns) (ns.map .str)
 | []=>fL.mpr rfl
 |n::ns=>cy.mpr ⟨_,_,rfl,gU.mpr rfl,gR ns⟩
abbrev HY:Stmt:=top 65
abbrev HZ:Stmt:=top 66
structure dE (H:Hp) (k:aq) (c:Int):Prop where
 ex:∃a b:Int,H k=some (.lst [.int a,.int b,.int c])/\0<=b/\b<2147483648
 c0:0<=c
def H_:gT X (binaryOp .FloorDiv) (rI (λ_ j=>0<j/\j<2^200) λi j=>.int (i/j)):=Qr λi j _ _ _ _ _ hc q=>by
 refine Oh ω ?_ (.inl (PV ?_))
 .rw[ow i ω];exact q
 .have:j.natAbs.log2<200:=Lm ω;omega
def BB:Nat:=2^1000
def Ag (h:n<2^200):n<BB:=aT h (cH δ δ)
def Rw (h:n<BB):n.log2<1000:=by
 by_cases e:n=0
 .subst e;decide
 .exact(Nat.log2_lt e).mpr h
def uW:gT X (binaryOp .FloorDiv) (rI (λ_ j=>0<j/\j.natAbs<BB) λi j=>.int (i/j)):=Qr λi j _ _ _ _ _ hc q=>by
 refine Oh (Int.ne_of_gt hc.1) ?_ (.inl (PV ?_))
 .rw[ow i (ky hc.1)];exact q
 .exact m8 (Rw hc.2) δ
def Ib:Sp:=λvs H Q _=>∃cell tn:Int,vs=[.int cell,.int tn]/\0<=tn/\∀p H',H p=none->bc H H'->dE H' p tn->Q (.ref p) H'
def scD:bx ["cell","turn"] ["cell","turn"] (aP HY):={}
def Mn (F:gX K "_law_deck" "_law_deck" HY f fd):cG P w K mg base fK 1 f fd ["cell","turn"] Ib:=by
 refine F.ok scD (λvs H Q E h=>?_) (λeU A outer s H vs Q E hr h=>?_)
 .obtain⟨cell,tn,rfl,_⟩:=h;rfl
 .obtain⟨cell,tn,rfl,t0,q⟩:=h;refine⟨_,az (zh (qx GS (pv 0) (bQ me aH aH) (cO _)) (aO (bK (xH (ae (bQ rH (pv 0) (bQ me aH aH)) (ae (bQ kT (pv 0) aH) (ae (pv 1) aj)))))) cj) (aO (bK (xH (ae aH (ae (bQ kT (pv 0) aH) (ae (pv 1) aj)))))),?_⟩;have hb:0<=cell %2147483579/\cell %2147483579<2147483648:=ω;refine⟨_,rfl,_,_,rfl,rfl,⟨δ,δ,δ⟩,_,_,rfl,rfl,_,rfl,?_⟩;refine oJ (λc=>?_) (λc=>?_)
  .refine⟨_,rfl,_,_,rfl,rfl,⟨δ,δ,δ⟩,_,_,rfl,rfl,_,rfl,_,_,rfl,rfl,by show(0:Int)<2147483579;decide,_,rfl,Bh,λp hp=>?_⟩;exact q p _ hp (bZ hp _) ⟨⟨_,_,ba,hb.1,hb.2⟩,t0⟩
  .refine⟨_,rfl,_,_,rfl,rfl,by show(0:Int)<2147483579;decide,_,rfl,Bh,λp hp=>?_⟩;exact q p _ hp (bZ hp _) ⟨⟨_,_,ba,hb.1,hb.2⟩,t0⟩
def Cd:Sp:=λvs H Q _=>∃(k:aq) (c many:Int),vs=[.ref k,.int many]/\dE H k c/\c<=100000/\0<many/\many<=10000000000000/\ ∀(r c':Int) (H':Hp),cX k H H'->dE H' k c'->c'<=c+1->0<=r->r<many->Q (.int r) H'
def Z2:bx ["deck","many","found","number"] ["deck","many"] (aP HZ):={}
def Mo (F:gX K "_law_pick" "_law_pick" HZ f fd):cG P w K mg base fK 1 f fd ["deck","many"] Cd:=by
 refine F.ok Z2 (λvs H Q E h=>?_) (λeU A outer s H vs Q E hr h=>?_)
 .obtain⟨k,c,many,rfl,_⟩:=h;rfl
 .obtain⟨k,c,many,rfl,⟨⟨a,b,hk,b0,b1⟩,c0⟩,c1,m0,m1,q⟩:=h;refine⟨_,az (zh (qx zi (bW kE (pv 0) aH) aH (cO _)) (az (iQ (i:=2) Z2.nd (bQ kT (bW kE (pv 0) aH) (pv 1))) (az (iP (bQ H_ (bW kE (pv 0) aH) (pv 1)) (GJ (pv 0) aH set_list)) (aO (bK (pv 2))))) cj) (az (iP (bQ fF (bW kE (pv 0) aH) aH) (GJ (pv 0) aH set_list)) (az (iQ (i:=3) Z2.nd (bQ kT (bQ me (bQ fF (bW kE (pv 0) aH) (bQ kS aH (bW kE (pv 0) aH))) aH) aH)) (az (iQ (i:=2) Z2.nd (bQ tY (bQ kT (bQ me (bQ fF (pv 3) (bQ kS aH (bW kE (pv 0) aH))) aH) aH) aH)) (az (zh (qx zi (pv 1) aH (cO _)) (aO (bK (bQ kT (bQ fF (bQ kS (pv 2) aH) (pv 3)) (pv 1)))) cj) (aO (bK (bQ kT (pv 2) (pv 1)))))))),?_⟩;refine⟨_,rfl,k,_,0,_,rfl,rfl,gj.of hk,a_ (j:=0) rfl,_,_,rfl,rfl,_,rfl,?_⟩;refine oJ (λc2=>?_) (λc2=>?_)
  .refine⟨_,rfl,k,_,0,_,rfl,rfl,gj.of hk,a_ (j:=0) rfl,_,rfl,_,_,rfl,rfl,m0,?_⟩;refine⟨_,rfl,k,_,0,_,rfl,rfl,gj.of hk,a_ (j:=0) rfl,_,rfl,_,_,rfl,rfl,⟨m0,ω⟩,?_⟩;refine⟨_,rfl,k,_,0,0,rfl,rfl,hk,rfl,?_⟩;refine⟨_,rfl,q _ c _ (cX.at _) ⟨⟨_,_,ba,b0,b1⟩,c0⟩ ω (mM _ ω) (jS _ m0)⟩
  .refine⟨_,rfl,k,_,2,_,rfl,rfl,gj.of hk,a_ (j:=2) rfl,_,_,rfl,rfl,?_⟩;refine⟨_,rfl,k,_,2,2,rfl,rfl,hk,rfl,?_⟩;have Z3:(upd H k (.lst [.int a,.int b,.int (c+1)])) k=some (.lst [.int a,.int b,.int (c+1)]):=ba;show zg _ _ _ _ (upd H k (.lst [.int a,.int b,.int (c+1)]));have kp:cX k H (upd H k (.lst [.int a,.int b,.int (c+1)])):=cX.at _;generalize upd H k (.lst [.int a,.int b,.int (c+1)])=H2 at*;have fin:∀r:Int,0<=r->r<many->Q (.int r) H2:=λr h1 h2=>q r (c+1) H2 kp ⟨⟨_,_,Z3,b0,b1⟩,ω⟩ (F_ _) h1 h2;refine⟨_,rfl,k,_,1,_,rfl,rfl,gj.of Z3,a_ (j:=1) rfl,_,rfl,k,_,2,_,rfl,rfl,gj.of Z3,a_ (j:=2) rfl,_,_,rfl,rfl,.inl ⟨δ,δ⟩,_,_,rfl,rfl,_,_,rfl,rfl,⟨δ,δ,?_⟩,_,_,rfl,rfl,by show(0:Int)<2147483647;decide,?_⟩
   .omega
   .generalize hN:(b+15485867*(c+1))^(5:Int).toNat %2147483647=number;have n0:0<=number:=by rw[<-hN];exact mM _ δ
    have n1:number<2147483647:=by rw[<-hN];exact jS _ δ
    refine⟨_,rfl,_,rfl,k,_,2,_,rfl,rfl,gj.of Z3,a_ (j:=2) rfl,_,_,rfl,rfl,.inl ⟨δ,δ⟩,_,_,rfl,rfl,_,_,rfl,rfl,⟨δ,δ,?_⟩,_,_,rfl,rfl,by show(0:Int)<2147483629;decide,_,_,rfl,rfl,⟨δ,δ⟩,?_⟩
    .omega
    .generalize hF:(number+7919*(c+1))^(3:Int).toNat %2147483629/32=found;have f0:0<=found/\found<2147483629:=by have e0:0<=(number+7919*(c+1))^(3:Int).toNat %2147483629:=mM _ δ;have e1:(number+7919*(c+1))^(3:Int).toNat %2147483629<2147483629:=jS _ δ;rw[<-hF];omega
     refine⟨_,rfl,_,_,rfl,rfl,_,rfl,?_⟩;refine oJ (λc3=>?_) (λc3=>?_)
     .exact⟨_,rfl,_,_,rfl,rfl,.inl ⟨ω,ω⟩,_,rfl,_,_,rfl,rfl,_,rfl,_,_,rfl,rfl,m0,fin _ (mM _ ω) (jS _ m0)⟩
     .exact⟨_,rfl,_,rfl,_,_,rfl,rfl,m0,fin _ (mM _ ω) (jS _ m0)⟩
abbrev Ce:Stmt:=top 67
abbrev sWt:Stmt:=top 68
def okN (n:Str):Prop:=n.length<=100/\PyData.strOk n=true/\lK (.str n)=true
def dE.keep {H H':Hp}{k:aq}{c:Int}(h:dE H k c) (e:∀o,H k=some o->H' k=some o):dE H' k c:=by obtain⟨⟨a,b,h1,h2⟩,c0⟩:=h;exact⟨⟨a,b,e _ h1,h2⟩,c0⟩
def dE.some {H:Hp}{k:aq}{c:Int}(h:dE H k c):∃o,H k=some o:=let⟨⟨_,_,h1,_⟩,_⟩:=h;⟨_,h1⟩
def aa3:bx ["deck"] ["deck"] (aP sWt):={}
def aa4 (e:l=[a,b,c,d]) (ha:PS X a ta) (hb:PS X b tb) (hc:PS X c tc) (hd:PS X d td):su X l (zg ta (zg tb (zg tc td))):=by rw[e];exact az ha (az hb (az hc (aO hd)))
def WV {Φ:TS->Prop}(h:∃a b c d,l=[a,b,c,d]/\PS X a ta/\PS X b tb/\PS X c tc/\PS X d td) (q:Φ (zg ta (zg tb (zg tc td)))):∃t,su X l t/\Φ t:=by obtain⟨a,b,c,d,e,h1,h2,h3,h4⟩:=h;exact⟨_,aa4 e h1 h2 h3 h4,q⟩
def xa {α β:Type}(f:α->β):∀(l:List α) (i:Nat),(l.eraseIdx i).map f=(l.map f).eraseIdx i
 | [],_=>rfl
 |_::_,0=>rfl
 |a::l,i+1=>by rw[bG,rn,rn,bG,xa f l i]
def uX {α:Type}:∀{l:List α}{i:Nat}(h:i<l.length),(l[i]::l.eraseIdx i).Perm l
 |_::_,0,_=>.refl _
 |a::l,i+1,h=>by show(l[i]'(by simpa using h)::a::l.eraseIdx i).Perm (a::l);exact(List.Perm.swap _ _ _).trans ((uX (l:=l) (i:=i) (by simpa using h)).cons a)
def yi:Aab:=["ann","bo","cy","di","ed","fay","a","portgirl","both","al","ali","alia"]
def Fs:∀n∈yi,okN n:=by unfold okN;decide+kernel
def Ah:∀{es:List Expr}{vs:Aac},Paired (λ(e:Expr) (v:V)=>∃x j p,e=.Constant (.str x) j p/\v=.str x) es vs->PA X es (λ_ H Q=>Q vs H)
 |_,_,.nil=>aj
 |_,_,.cons (a:=e) (b:=v) (l₁:=es) (l₂:=vs) ⟨x,j,p,he,hv⟩ r=>by subst he hv;exact λpos ac s U H Q I h=>ae f_ (Ah r) rfl pos ac s U H Q I h
def Mp:bx ["deck","many","some","found","k"] ["deck","many"] (aP Ce):={}
def dE.ne {H}(h:dE H k c) (hp:H p=none):k≠p:=λz=>by obtain⟨o,ho⟩:=h.some;rw[z,hp] at ho;cases ho
def Ic {α:Type}{xs:List α}{i:Int}(h0:0<=i) (h1:i<xs.length):∃h:i.toNat<xs.length,xK xs i=some xs[i.toNat]:=by have h2:i.toNat<xs.length:=ω;have e:i=((i.toNat:Nat):Int):=ω;refine⟨h2,?_⟩;have:=a_ (j:=i.toNat) (ag h2);rw[<-e] at this;exact this
def Mq (n:Str):Prop:=n.length<=100/\PyData.strOk n=true
abbrev sRg:Stmt:=top 70
def Ie:bx ["deck","many","sides","k"] ["deck","many"] (aP sRg):={}
def Rx:Mq "port":=by unfold Mq;decide+kernel
def Ry:Mq "starboard":=by unfold Mq;decide+kernel
def uY (ss:Aab) (i:Nat) (x:Str):(ss.map V.str).take i++V.str x::(ss.map V.str).drop i=(ss.take i++x::ss.drop i).map V.str:=by rw[bC,bG,qg,PX]
def OT (x:V):Prop:=∃d:PyData,Bd 1 0 d/\∀(H:Hp) (k:aq),Tells H k d x
def Ig:Aac->Prop
 | []=>True
 |x::xs=>OT x/\Ig xs
def ll (h:OT x) (hs:Ig xs):Ig (x::xs):=⟨h,hs⟩
def acK {lo}{ns:List Int} (h:x∈gO (ns.map V.int) lo hi):∃c:Int,x=.int c:=by obtain⟨c,_,rfl⟩:=br.mp (vI (gH h));exact⟨c,rfl⟩
def Mr (h:cG P w K mg base fK j f fd ps sp) (le:j<=k):cG P w K mg base fK k f fd ps sp:=⟨h.len,λA outer s H args us vs Q E hr=>h.run A outer s H args us vs Q E (hr.mono le)⟩
structure cu (K:Φ) (x:Str) (st:Stmt) (f:aq):Prop where
 a:PySem.W.nsIn K mainGlobals x=some (some (.ref f))
 ex:∃(oc:ai) (od:Option aq) (kV doc pm:ai) (an:Option aq) (eU ct:ai) (qy:Array (Option ai)),K.lookup f=some ⟨oc,od,.func (PySem.W.fnOf x x (fW st) (eC st) (aP st) .none kV doc pm an eU ct),qy⟩/\PySem.W.codeIn K eU x=true
 k:PySem.W.keepIn K (.ref f)=true
def stands {st}{kV doc pm:ai}(a:PySem.W.nsIn K mainGlobals x=some (some (.ref f))) (l:K.lookup f=some ⟨oc,od,.func (PySem.W.fnOf x x (fW st) (eC st) (aP st) .none kV doc pm an eU ct),qy⟩) (c:PySem.W.codeIn K eU x=true) (k:PySem.W.keepIn K (.ref f)=true):cu K x st f:=⟨a,⟨oc,od,kV,doc,pm,an,eU,ct,qy,l,c⟩,k⟩
def cu.fn {st}(S:cu K x st f):∃fd,gX K x x st f fd:=by obtain⟨oc,od,kV,doc,pm,an,eU,ct,qy,l,c⟩:=S.ex;exact⟨_,BG (st:=st) l c S.k⟩
def pk {U}{H}{E}(h0:U[i]?=some (some (.ref k))) (dk:dE H k c) (hc:c<=100000) (h1:0<n) (h2:n<=10000000000000) (q:∀(r c':Int) (H':Hp),cX k H H'->dE H' k c'->c'<=c+1->0<=r->r<n->Q (.int r) H'):CZ Cd [] E (dF (KQ i) (dF (tC (.int n)) gk)) U H Q:=⟨_,h0,k,c,n,rfl,dk,hc,h1,h2,q⟩
abbrev Ih:Stmt:=top 20
abbrev Ij:Stmt:=top 21
abbrev Cf:Stmt:=top 22
def scC:bx ["thing"] ["thing"] (aP Ih):={}
def WW:(["name","behind"]:Aab).Nodup:=η
def cY.one {X:Cx}{scope:Scope}{nm:List (Str×NameKind)}{v fr:Str}{j:Nat}(hN:X.N[j]?=some fr) (hk:scope.kind=.function) (hn:scope.names=nm) (h1:X.env.scope.names.lookup fr=some .cell) (c1:∀y∈nm,y.2≠.cell:=by decide+kernel) (c2:∀y∈nm,y.2=.local->nm.lookup y.1=some .local:=by decide+kernel) (c3:∀y∈nm,y.2=.free->y.1=fr:=by decide+kernel) (c4:(fr,NameKind.free)∈nm:=by decide+kernel) (c5:nm.lookup fr=some .free:=by decide+kernel):cY X scope [v,fr] [none,some j] where
 kind:=hk
 jm:=by rw[hn];exact c1
 own:=by rw[hn];exact c2
 out:=by rw[hn];intro y hy e;rw[c3 y hy e];exact .inl h1
 len:=rfl
 free:=by
  intro i j' x e1 e2;rw[hn]
  match i,e1,e2 with
  |1,e1,e2=>cases e1;cases e2;exact⟨hN,c4,c5⟩
  |n+2,e1,e2=>simp at e1
def aa5:bx ["thing"] ["thing"] (aP Ij):={}
def aa6:List (Str×NameKind):=[(".0",.local),("name",.local),("second",.free)]
def aa7:(["name","second"]:Aab).Nodup:=η
def Ft:bx ["thing","first","second","time","other","course"] ["thing"] (aP Cf):={}
abbrev sFr:Stmt:=top 15
abbrev sMg:Stmt:=top 23
def Ik (m n:Nat):Nat.gcd n (m %n)=Nat.gcd m n:=by rw[Vf n (m %n),<-Nat.gcd_rec n m,Vf]
def Dt (m n:Nat):((m:Int) %(n:Int))=((m %n:Nat):Int):=(Int.natCast_emod m n).symm
def Ms (t:Int):(if t<0 then-t else t)=(t.natAbs:Int):=by split<;>omega
def eZ (t b:Int):Int:=t/(Nat.gcd t.natAbs b.natAbs:Int)
def eN (t b:Int):Int:=b/(Nat.gcd t.natAbs b.natAbs:Int)
def Du {t b:Int}(h:0<b):0<Nat.gcd t.natAbs b.natAbs:=Nat.gcd_pos_of_pos_right _ ω
def WX:Sp:=λvs H Q _=>∃t b:Int,vs=[.int t,.int b]/\0<b/\b.natAbs<BB/\t.natAbs<BB/\∀p,H p=none->Q (.ref p) (upd H p (.tup [.int (eZ t b),.int (eN t b)]))
def Rz:bx ["top","bottom","divisor","rest"] ["top","bottom"] (aP sFr):={}
def j9:bootBuiltins "abs"=some (.builtin "abs"):=η
def WY (F:gX K "fraction" "fraction" sFr f fd) (T:Txt mg):cG P w K mg base fK 1 f fd ["top","bottom"] WX:=by
 refine F.ok Rz (λvs H Q E h=>?_) (λeU A outer s H vs Q E hr h=>?_)
 .obtain⟨t,b,rfl,_⟩:=h;rfl
 .obtain⟨t,b,rfl,b0,b1,t1,q⟩:=h;refine⟨_,az (GK (i:=2) (j:=3) rfl Rz.nd rfl rfl δ rfl rfl (ae (pv 1) (ae (bj lB rfl T.abs j9 (ae (pv 0) aj)) aj)) rfl) (az (GN bz (qx zi (pv 3) aH (cO _)) (aO (GK (i:=2) (j:=3) rfl Rz.nd rfl rfl δ rfl rfl (ae (pv 3) (ae (bQ kT (pv 2) (pv 3)) aj)) rfl))) (aO (bK (uz (ae (bQ uW (pv 0) (pv 2)) (ae (bQ uW (pv 1) (pv 2)) aj)))))),?_⟩;refine⟨_,rfl,_,rfl,_,rfl,_,_,rfl,?_⟩;refine GQ (λde H'=>H'=H/\∃m n:Nat,de=[some (.int t),some (.int b),some (.int m),some (.int n)]/\0<m/\Nat.gcd m n=Nat.gcd t.natAbs b.natAbs/\m<BB/\n<BB) (λde _=>match de with| [_,_,_,some (.int n)]=>n.toNat|_=>0) ?_ ?_ ?_
  .refine⟨rfl,b.natAbs,t.natAbs,?_,ω,Vf _ _,b1,t1⟩;show[some (V.int t),some (V.int b),some (V.int b),some (V.int (if t<0 then-t else t))]=_;rw[Ms,show((b.natAbs:Nat):Int)=b by omega]
  .rintro de H' ⟨rfl,m,n,rfl,m0,hg,hm,hn⟩;refine⟨_,rfl,_,_,rfl,rfl,_,rfl,?_⟩;refine oJ (λc=>?_) (λc=>?_)
   .have n0:0<n:=by have:(0:Int)<(n:Int):=fe c;omega
    refine⟨_,rfl,_,rfl,_,rfl,_,_,rfl,rfl,ω,_,_,rfl,⟨rfl,n,m %n,?_,n0,by rw[Ik];exact hg,hn,bU (Nat.mod_le _ _) hm⟩,?_⟩
    .show[some (V.int t),some (V.int b),some (V.int (n:Int)),some (V.int ((m:Int) %(n:Int)))]=_;rw[Dt]
    .show((m:Int) %(n:Int)).toNat<(n:Int).toNat;rw[Dt];have:=Nat.mod_lt m n0;omega
   .have n0:n=0:=by have: ¬(0:Int)<(n:Int):=by simpa using c
                    omega
    subst n0;rw[Nat.gcd_zero_right] at hg;have bd:(0:Int)<(m:Int)/\(m:Int).natAbs<BB:=⟨Int.natCast_pos.mpr m0,hm⟩;refine⟨_,rfl,_,rfl,_,_,rfl,rfl,bd,_,rfl,_,rfl,_,_,rfl,rfl,bd,Bh,λp hp=>?_⟩;have:=q p hp;unfold eZ eN at this;rw[<-hg] at this;exact this
  .rintro de H' Q1 Q2 imp ⟨v,hv,i,j,e1,e2,b',e3,h⟩;exact⟨v,hv,i,j,e1,e2,b',e3,imp _ _ h⟩
def Fu:bx ["piece","first","second","time","other","course"] ["piece"] (aP sMg):={}
def xb (t b:Int):((Nat.gcd t.natAbs b.natAbs:Nat):Int)∣t:=Int.natAbs_dvd_natAbs.mp (by rw[Int.natAbs_natCast];exact Nat.gcd_dvd_left _ _)
def xc (t b:Int):((Nat.gcd t.natAbs b.natAbs:Nat):Int)∣b:=Int.natAbs_dvd_natAbs.mp (by rw[Int.natAbs_natCast];exact Nat.gcd_dvd_right _ _)
def yj (hb:0<b):eZ t b*b=t*eN t b:=by
 unfold eZ eN;have g0:(0:Int)<((Nat.gcd t.natAbs b.natAbs:Nat):Int):=by have:=Du (t:=t) hb;omega
 obtain⟨x,hx⟩:=xb t b;obtain⟨y,hy⟩:=xc t b;generalize ((Nat.gcd t.natAbs b.natAbs:Nat):Int)=g at*;subst hx hy;rw[qi _ ω,qi _ ω];grind
def lM (hb:0<b):0<eN t b:=by
 unfold eN;have g0:(0:Int)<((Nat.gcd t.natAbs b.natAbs:Nat):Int):=by have:=Du (t:=t) hb;omega
 obtain⟨y,hy⟩:=xc t b;generalize ((Nat.gcd t.natAbs b.natAbs:Nat):Int)=g at*;subst hy;rw[qi _ ω];exact Int.pos_of_mul_pos_right hb g0
def Aj (hk:0<k):eZ (k*t) (k*b)=eZ t b/\eN (k*t) (k*b)=eN t b:=by
 unfold eZ eN;have e:((Nat.gcd (k*t).natAbs (k*b).natAbs:Nat):Int)=k*((Nat.gcd t.natAbs b.natAbs:Nat):Int):=by rw[vJ,vJ,Nat.gcd_mul_left,Int.natCast_mul];congr 1;omega
 rw[e,Us _ _ hk,Us _ _ hk];exact⟨rfl,rfl⟩
def WZ (hb:0<b) (hd:0<d) (e:a*d=c*b):eZ a b=eZ c d/\eN a b=eN c d:=by
 obtain⟨h1,h2⟩:=Aj (t:=a) (b:=b) hd;obtain⟨h3,h4⟩:=Aj (t:=c) (b:=d) hb;have e1:d*a=b*c:=by rw[Be,e,Be]
 have e2:d*b=b*d:=Be _ _;rw[<-h1,<-h2,e1,e2,h3,h4];exact⟨rfl,rfl⟩
def uZ:(eZ t b).natAbs<=t.natAbs:=pG _ _
def u6:(eN t b).natAbs<=b.natAbs:=pG _ _
abbrev Up (l:Aab):Prop:=l.Pairwise λa b=>dH a b=true
def qQ (h:dH a b=true):dH b a=false:=by
 cases e:dH b a with
 |false=>rfl
 |true=>have:=lJ h e;rw[oh] at this;cases this
def RA (h:dH a b=true):a≠b:=λz=>by rw[z,oh] at h;cases h
def Ak (ha:Up a) (hb:Up b) (p:a.Perm b):a=b:=qj (λx y _ _ h1 h2=>by rw[qQ h1] at h2;cases h2) ha hb p
def Up.nodup (h:Up l):l.Nodup:=h.imp λz=>RA z
def xf:∀{l:Aab}{p:Str},risingS p l=true->(p::l).Nodup->(p::l).Pairwise λa b=>dH a b=true
 | [],p,_,_=>by simp
 |x::l,p,h,nd=>by
  have h':=(cA _ _▸h:_/\_);have OU:=hJ.mp nd;have ih:=xf h'.2 OU.2;have px:dH p x=true:=by
   have n:p≠x:=λz=>OU.1 (z▸bT);rcases qK n with z|z
   .exact z
   .have:=h'.1;rw[ltCps_eq] at this;unfold dH at z;rw[z] at this;cases this
  refine List.pairwise_cons.mpr ⟨λy hy=>?_,ih⟩;rcases aU.mp hy with rfl|hy
  .exact px
  .exact lJ px ((List.pairwise_cons.mp ih).1 y hy)
def jq (h:PyProof.Rows.sortedS l=true) (nd:l.Nodup):l.Pairwise λa b=>dH a b=true:=by
 cases l with
 |nil=>exact .nil
 |cons x l=>exact xf h nd
structure oi where
 a:Aab
 b:Aab
 t:Int
 o:Int
 c:Int
def oS (H:Hp) (r:aq) (p:oi):Prop:=∃a b,H r=some (.tup [.ref a,.ref b,.int p.t,.int p.o,.int p.c])/\H a=some (.tup (p.a.map V.str))/\H b=some (.tup (p.b.map V.str))
def oS.up {H}(h:oS H r p) (s:∀b xs,H b=some (.tup xs)->H' b=some (.tup xs)):oS H' r p:=by obtain⟨a,b,h1,h2,h3⟩:=h;exact⟨a,b,s _ _ h1,s _ _ h2,s _ _ h3⟩
structure Fv (a:Aab):Prop where
 l1:1<=a.length
 l4:a.length<=4
 ok:∀n∈a,okN n
structure gW (p:oi):Prop where
 a:Fv p.a
 b:Fv p.b
 t1:1<=p.t
 t9:p.t<=1000000000
 o1:1<=p.o
 o9:p.o<=1000000000
 c1:1<=p.c
 c9:p.c<=1000000000
structure jd (p:oi):Prop where
 a:Up p.a
 b:Up p.b
 no:∀n∈p.a,n∉p.b
 le:p.a.length=p.b.length
def exc (a:Aab) (m y:Str):Aab:=a.filter (λn=>!decide (n=m))++ [y]
def vZ (a:Aab) (m y:Str) (c:Aab):Prop:=c.Perm (exc a m y)/\Up c
def vZ.uniq (h:vZ a m y c) (k:vZ a m y d):c=d:=Ak h.2 k.2 (h.1.trans k.1.symm)
def qR:x∈exc a m y↔(x∈a/\x≠m)\/x=y:=by unfold exc;rw[aX,gA,aK];simp
def rV (h:a.Nodup) (hy:y∉a):(exc a m y).Nodup:=by unfold exc;rw[fg];refine⟨h.filter _,ς,λx hx z hz=>?_⟩;rw[aK.mp hz];rintro rfl;exact hy (gA.mp hx).1
def Dv (h:a.Nodup) (hy:y∉a) (p:c.Perm (exc a m y)) (s:PyProof.Rows.sortedS c=true):vZ a m y c:=⟨p,jq s (p.nodup_iff.mpr (rV h hy))⟩
structure Xp (p q:oi) (m y:Str):Prop where
 hm:m∈p.a
 hy:y∈p.b
 a:vZ p.a m y q.a
 b:vZ p.b y m q.b
def v_ {a b:Aab}(ha:a.Nodup) (hb:b.Nodup) (h:∀x,x∈a↔x∈b):a.Perm b:=(List.perm_ext_iff_of_nodup ha hb).mpr h
def Cg {a:Aab}(h:a.Nodup) (hm:m∈a) (hf:∀x∈a,f x=true↔x=m):a.filter f=[m]:=by
 have hn:(a.filter f).Nodup:=h.filter _;have hp:(a.filter f).Perm [m]:=v_ hn ς λx=>by rw[gA,aK];exact⟨λz=>(hf x z.1).mp z.2,λz=>z▸⟨hm,(hf m hm).mpr rfl⟩⟩
 exact List.perm_singleton.mp hp
def Al (a b:Aab):Aab:=a.filter λn=>!decide (n∈b)
def qS (h:a.Nodup) (hm:m∈a) (hf:∀x∈a,x∉b↔x=m):Al a b=[m]:=Cg h hm λx hx=>by rw[<-hf x hx];simp
def Xp.diff {p q:oi}{m y:Str}(P:jd p) (x:Xp p q m y):Al p.a q.a=[m]/\Al q.a p.a=[y]/\Al p.b q.b=[y]/\Al q.b p.b=[m]:=by
 have my:m≠y:=λz=>P.no _ x.hm (z▸x.hy);have nya:y∉p.a:=λz=>P.no _ z x.hy;have nmb:m∉p.b:=P.no _ x.hm;have e1:∀z,z∈q.a↔(z∈p.a/\z≠m)\/z=y:=λz=>by rw[x.a.1.mem_iff,qR]
 have e2:∀z,z∈q.b↔(z∈p.b/\z≠y)\/z=m:=λz=>by rw[x.b.1.mem_iff,qR]
 refine⟨qS P.a.nodup x.hm λz hz=>?_,qS x.a.2.nodup ((e1 y).mpr (.inr rfl)) λz hz=>?_,qS P.b.nodup x.hy λz hz=>?_,qS x.b.2.nodup ((e2 m).mpr (.inr rfl)) λz hz=>?_⟩
 .rw[e1];refine⟨λh=>Oi λw=>h (.inl ⟨hz,w⟩),?_⟩;rintro rfl (h|h)
  .exact h.2 rfl
  .exact my h
 .refine⟨λh=>?_,λh=>h▸nya⟩;rcases(e1 z).mp hz with w|w
  .exact absurd w.1 h
  .exact w
 .rw[e2];refine⟨λh=>Oi λw=>h (.inl ⟨hz,w⟩),?_⟩;rintro rfl (h|h)
  .exact h.2 rfl
  .exact my h.symm
 .refine⟨λh=>?_,λh=>h▸nmb⟩;rcases(e2 z).mp hz with w|w
  .exact absurd w.1 h
  .exact w
def u7 (nd:a.Nodup) (h:m∈a):(exc a m y).length=a.length:=by
 unfold exc;rw[aA,aE];have e:a.filter (λn=>!decide (n=m))=a.erase m:=by rw[nd.erase_eq_filter];rfl
 rw[e,PY h];have:0<a.length:=kD h;omega
def Xp.o7 (P:jd p) (x:Xp p q m y):jd q:=by
 have my:m≠y:=λz=>P.no _ x.hm (z▸x.hy);refine⟨x.a.2,x.b.2,λn hn hb=>?_,?_⟩
 .rw[x.a.1.mem_iff,qR] at hn;rw[x.b.1.mem_iff,qR] at hb;rcases hn with⟨h1,h2⟩|h1<;>rcases hb with⟨h3,h4⟩|h3
  .exact P.no n h1 h3
  .exact h2 h3
  .exact h4 h1
  .exact my (h3.symm.trans h1)
 .rw[x.a.1.length_eq,x.b.1.length_eq,u7 P.a.nodup x.hm,u7 P.b.nodup x.hy];exact P.le
def Xp.uniq (P:jd p) (x:Xp p q m y) (x':Xp p q m' y'):m=m'/\y=y':=by have a:=x.diff P;have b:=x'.diff P;have h1:=a.1.symm.trans b.1;have h2:=a.2.1.symm.trans b.2.1;simp only[List.cons.injEq,and_true] at h1 h2;exact⟨h1,h2⟩
def Gh (p q:oi):Int:=(p.o-p.t)*q.c-(q.o-q.t)*p.c
def u9 (p q:oi) (m y:Str):Str×Str×Int×Int:=
 let d:=Gh p q;let b:=p.c*q.c
 if 0<d then(m,y,eZ d b,eN d b) else if d<0 then(y,m,eZ (-d) b,eN (-d) b) else(if dH y m=true then y else m,if dH y m=true then m else y,0,1)
def Told (p q:oi) (r:Option (Str×Str×Int×Int)):Prop:=(∃m y,Xp p q m y/\r=some (u9 p q m y))\/((∀m y,¬Xp p q m y)/\r=none)
def Told.uniq (P:jd p) (h:Told p q r) (h':Told p q r'):r=r':=by
 rcases h with⟨m,y,x,rfl⟩|⟨n,rfl⟩<;>rcases h' with⟨m',y',x',rfl⟩|⟨n',rfl⟩
 .obtain⟨rfl,rfl⟩:=x.uniq P x';rfl
 .exact absurd x (n' _ _)
 .exact absurd x' (n _ _)
 .rfl
def RB {p q:oi}(hp:0<p.c) (hq:0<q.c):eZ (eZ (p.o-p.t) p.c*eN (q.o-q.t) q.c-eZ (q.o-q.t) q.c*eN (p.o-p.t) p.c) (eN (p.o-p.t) p.c*eN (q.o-q.t) q.c)=eZ (Gh p q) (p.c*q.c)/\ eN (eZ (p.o-p.t) p.c*eN (q.o-q.t) q.c-eZ (q.o-q.t) q.c*eN (p.o-p.t) p.c) (eN (p.o-p.t) p.c*eN (q.o-q.t) q.c)=eN (Gh p q) (p.c*q.c):=by
 have m1:=yj (t:=p.o-p.t) hp;have m2:=yj (t:=q.o-q.t) hq;have b1:=lM (t:=p.o-p.t) hp;have b2:=lM (t:=q.o-q.t) hq;generalize eZ (p.o-p.t) p.c=T1 at*;generalize eN (p.o-p.t) p.c=B1 at*;generalize eZ (q.o-q.t) q.c=T2 at*;generalize eN (q.o-q.t) q.c=B2 at*;refine WZ (lW b1 b2) (lW hp hq) ?_;unfold Gh;rw[Int.sub_mul,Int.sub_mul];have a1:T1*B2*(p.c*q.c)=(p.o-p.t)*q.c*(B1*B2):=by
  calc T1*B2*(p.c*q.c)=(T1*p.c)*(B2*q.c):=by ac_rfl
   _=((p.o-p.t)*B1)*(B2*q.c):=by rw[m1]
   _=_:=by ac_rfl
 have a2:T2*B1*(p.c*q.c)=(q.o-q.t)*p.c*(B1*B2):=by
  calc T2*B1*(p.c*q.c)=(T2*q.c)*(B1*p.c):=by ac_rfl
   _=((q.o-q.t)*B2)*(B1*p.c):=by rw[m2]
   _=_:=by ac_rfl
 rw[a1,a2]
def RC (hb:0<b):eZ (-t) b=-eZ t b/\eN (-t) b=eN t b:=by have h:=yj (t:=t) hb;unfold eZ eN;rw[Int.natAbs_neg];refine⟨?_,rfl⟩;rw[Int.neg_ediv_of_dvd];exact xb t b
def Mt (hb:0<b):(0<eZ t b↔0<t)/\(eZ t b<0↔t<0):=by
 have h:=yj (t:=t) hb;have hB:=lM (t:=t) hb;generalize eZ t b=T at*;generalize eN t b=B at*;have key:∀{x y u v:Int},0<u->0<v->x*u=y*v->0<x->0<y:=λhu hv e hx=>by have:=lW hx hu;rw[e] at this;exact Int.pos_of_mul_pos_left this hv
 refine⟨⟨key hb hB h,key hB hb h.symm⟩,⟨λz=>?_,λz=>?_⟩⟩
 .have:=key (x:=-T) (y:=-t) hb hB (by rw[Ga,Ga,h]) ω;omega
 .have:=key (x:=-t) (y:=-T) hB hb (by rw[Ga,Ga,h]) ω;omega
def gv:St->Nat->Option V
 | [],_=>none
 |x::_,0=>x
 |_::l,n+1=>gv l n
def Il:∀{U:St}{i:Nat}{v:V},gv U i=some v->U[i]?=some (some v)
 | [],_,_,h=>by cases h
 |x::_,0,_,h=>by rw[Ut];exact dA some h
 |_::l,n+1,v,h=>by rw[rD];exact Il (U:=l) h
def qv (Q:VK) (H:Hp):Option V->Prop
 |some v=>Q v H
 |none=>False
def vC (i:Nat):TE:=λU H Q=>qv Q H (gv U i)
def kI2 (g:Int->Int->V) (Q:VK) (H:Hp):V->V->Prop
 | .int i,.int j=>Q (g i j) H
 |_,_=>False
def rK (g:Int->Int->V):R2:=λx y H Q=>kI2 g Q H x y
def kB (Q:Bool->Hp->Prop) (H:Hp):V->Prop
 | .bl k=>Q k H
 |_=>False
def nG (t:TE):TT:=λU H Q=>t U H λx H'=>kB Q H' x
def gN:GD:=λvs U H Q=>match vs with
 | []=>Q U H
 |_=>False
def gC (t:TG) (u:GD):GD:=λvs U H Q=>match vs with
 |v::r=>t v U H λde H'=>u r de H' Q
 | []=>False
inductive pT (n:Nat) (t:GD):V->St->Hp->(St->Hp->Prop)->Prop
 |mk {a:aq} {xs:Aac} {U:St} {H:Hp} {Q:St->Hp->Prop} (h:H a=some (.tup xs)) (e:xs.length=n) (q:t xs U H Q):pT n t (.ref a) U H Q
inductive hE:V->V->Hp->VK->Prop
 |mk {p:aq} {xs:Aac} {i:Int} {v:V} {H:Hp} {Q:VK} (h:H p=some (.tup xs)) (e:xK xs i=some v) (q:Q v H):hE (.ref p) (.int i) H Q
inductive rW:V->V->Hp->VK->Prop
 |mk {p:aq} {xs:Aac} {i:Int} {v:V} {H:Hp} {Q:VK} (h:H p=some (.lst xs)) (e:xK xs i=some v) (q:Q v H):rW (.ref p) (.int i) H Q
inductive kj:Aac->Hp->VK->Prop
 |l {p:aq} {xs:Aac} {H:Hp} {Q:VK} (h:H p=some (.lst xs)) (q:Q (.int xs.length) H):kj [.ref p] H Q
 |t {p:aq} {xs:Aac} {H:Hp} {Q:VK} (h:H p=some (.tup xs)) (q:Q (.int xs.length) H):kj [.ref p] H Q
inductive cU (o:HO) (n:Nat) (H:Hp) (Q:VK):Prop
 |mk (l:Nat.ble n 10000=true) (q:∀p M,bc H M->M p=some o->H p=none->Q (.ref p) M)
def u_ (t:TA):TE:=λU H Q=>t U H λxs H1=>cU (.tup xs) xs.length H1 Q
def Fw (t:TA):TE:=λU H Q=>t U H λxs H1=>cU (.lst xs) xs.length H1 Q
def cU.old {H}(h:cU o n H Q):n<=sizeLine/\∀p,H p=none->Q (.ref p) (upd H p o):=by obtain⟨l,q⟩:=h;exact⟨aB (Nat.le_of_ble_eq_true l) δ,λp hp=>q p _ (λb u z=>by rw[bN (λy=>by rw[y,hp] at z;cases z)];exact z) ba hp⟩
inductive tF:V->Aac->Hp->VK->Prop
 |mk {l:aq} {xs:Aac} {y:V} {H:Hp} {Q:VK} (h:H l=some (.lst xs)) (e:xs.length<=10000) (q:∀M,cX l H M->M l=some (.lst (xs++ [y]))->Q .e_ M):tF (.ref l) [y] H Q
inductive Mu:V->Aac->Hp->VK->Prop
 |mk {l:aq} {xs:Aac} {y:V} {H:Hp} {Q:VK} (h:H l=some (.lst (xs++ [y]))) (q:∀M,cX l H M->M l=some (.lst xs)->Q y M):Mu (.ref l) [] H Q
inductive IsL:V->Hp->Prop
 |mk {l:aq} {xs:Aac} {H:Hp} (h:H l=some (.lst xs)):IsL (.ref l) H
def kBM (r:V->Aac->Hp->VK->Prop) (to:TE) (t:TA):TE:=λU H Q=>to U H λx H1=>IsL x H1/\t U H1 λxs H2=>r x xs H2 Q
inductive Am (K:Φ) (f:Str):V->Hp->VK->Prop
 |mk {a C dx:aq} {fs:List (Str×V)} {v:V} {H:Hp} {Q:VK} (h:H a=some (.ins C dx fs)) (c:CW K C) (n:m_ K C f) (e:fs.lookup f=some v) (q:Q v H):Am K f (.ref a) H Q
def aa8 (K:Φ) (ta:TE) (f:Str):TE:=λU H Q=>ta U H λx H1=>Am K f x H1 Q
inductive jr (C:aq) (m:Str):V->Hp->Prop->Prop
 |mk {a dx:aq} {fs:List (Str×V)} {H:Hp} {R:Prop} (h:H a=some (.ins C dx fs)) (n:fs.lookup m=none) (q:R):jr C m (.ref a) H R
def va (C:aq) (m:Str) (sp:Sp) (E:XK) (ta:TE) (t:TA):TE:=λU H Q=>ta U H λx H1=>jr C m x H1 (t U H1 λvs H2=>sp (x::vs) H2 Q E)
def o_ (sp:Sp) (E:XK) (t:TA):TE:=λU H Q=>t U H λvs H1=>sp vs H1 Q E
def kUn (g:Int->V) (Q:VK) (H:Hp):V->Prop
 | .int i=>Q (g i) H
 |_=>False
def rUn (g:Int->V):V->Hp->VK->Prop:=λx H Q=>kUn g Q H x
def Ci (A B:Prop):Bool->Prop
 |true=>A
 |false=>B
def aa9 (c:TT) (t u:TS):TS:=λD U H=>c U H λb H1=>Ci (t D U H1) (u D U H1) b
def if2 {A}(h1:b=true->A) (h2:b=false->B):Ci A B b:=by
 cases b with
 |true=>exact h1 rfl
 |false=>exact h2 rfl
def Mv {A B c:Prop} [Decidable c] (h1:c->A) (h2:¬c->B):Ci A B (decide c):=if2 (λz=>h1 (fe z)) λz=>h2 (oC z)
def ifN {A B c:Prop} [Decidable c] (h:¬c) (h1:B):Ci A B (decide c):=by rw[bw h];exact h1
inductive mZ (K:Φ) (R:It->Hp->Prop) (H:Hp):V->Prop
 |mk {a:aq} {xs:Aac} (h:H a=some (.lst xs)) (q:R (Gb K a) H):mZ K R H (.ref a)
inductive An (K:Φ) (R:It->Hp->Prop) (H:Hp):V->Prop
 |mk {a:aq} {xs:Aac} (h:H a=some (.tup xs)) (q:R (Ot K a) H):An K R H (.ref a)
inductive OV (R:It->Hp->Prop) (H:Hp):Aac->Prop
 |mk {j:Int} (h0:0<=j) (h1:j<=100000) (q:R (Ou 0 j.toNat) H):OV R H [.int j]
def iL (K:Φ) (tl:TE):TI:=λU H R=>tl U H λx H1=>mZ K R H1 x
def iT (K:Φ) (tl:TE):TI:=λU H R=>tl U H λx H1=>An K R H1 x
def iR (ta:TA):TI:=λU H R=>ta U H λx H1=>OV R H1 x
section
variable {e a b:Expr}{es:List Expr}{te t ta tb:TE}{tv:TA}{pos:Pos}
def PE.wk (h:PE X e t) (k:∀U H Q,t' U H Q->t U H Q):PE X e t':=λac s U H Q I q=>h ac s U H Q I (k _ _ _ q)
def PT.wk {t t':TT}(h:PT X e t) (k:∀U H Q,t' U H Q->t U H Q):PT X e t':=λac s U H Q I q=>h ac s U H Q I (k _ _ _ q)
def PG.wk {t t':TG}(h:PG X e t) (k:∀v U H Q,t' v U H Q->t v U H Q):PG X e t':=λac s U H v u Q I r q=>h ac s U H v u Q I r (k _ _ _ _ q)
def GF.wk {t t':GD}(h:GF X es t) (k:∀v U H Q,t' v U H Q->t v U H Q):GF X es t':=λac s U H v u Q I r q=>h ac s U H v u Q I r (k _ _ _ _ q)
def gT.wk (h:gT X f r) (k:∀x y H Q,r' x y H Q->r x y H Q):gT X f r':=λac s U H x y v u Q I rx ry q=>h ac s U H x y v u Q I rx ry (k _ _ _ _ q)
def dR.wk (h:dR X f r) (k:∀x H Q,r' x H Q->r x H Q):dR X f r':=λac s U H xs us Q I rx q=>h ac s U H xs us Q I rx (k _ _ _ q)
def Oz.wk (h:Oz X r) (k:∀x y H Q,r' x y H Q->r x y H Q):Oz X r':=λvalue slice ac s U H x y v u Q I rx ry q hs=>h value slice ac s U H x y v u Q I rx ry (k _ _ _ _ q) hs
def RD (U:St) (H:Hp) (Q:VK) (h:vC i U H Q):KQ i U H Q:=by
 unfold vC at h;cases e:gv U i with
 |none=>rw[e] at h;cases h
 |some v=>rw[e] at h;exact⟨v,Il e,h⟩
def pC (i:Nat) (hN:X.N[i]?=some x:=by rfl) (hv:Uw X.env.scope x:=by first|exact Or.inl rfl|exact Or.inr (Or.inl rfl)|exact Or.inr (Or.inr rfl)) (hd:(x==("__debug__":Str))=false:=by decide) (mX:(x==("__classdict__":Str))=false:=by decide):PE X (.Name x pos) (vC i):=(GA hN hv hd mX).wk RD
def oK (h:gT X f (KU g)):gT X f (rK g):=h.wk λx y H Q q=>by cases x<;>cases y<;>first|exact⟨_,_,rfl,rfl,q⟩|cases q
def Ao:ZG X (unaryOp .USub) (rUn λi=>.int (-i)):=λac s U H x v Q I r q=>by cases x<;>first|exact Qs ac s U H _ v Q I r ⟨_,rfl,q⟩|cases q
def Dw {H}(h:kB Q H x):∃k,x=.bl k/\Q k H:=by cases x<;>first|exact⟨_,rfl,h⟩|cases h
def fG (ho:gT X (compareOp op) r) (ha:PE X a ta) (hb:PE X b tb) (hm:behindInMarks op b=false):PT X (.Compare a [op] [b] pos) (nG (oH r ta tb)):=by
 intro ac s U H Q I h;refine yZ (dq (ha ac s U H _ I h) λv s1 ⟨x,H1,I1,r1,q1⟩=>dq (hb ac s1 U H1 _ I1 q1) λu s2 ⟨y,H2,I2,r2,q2⟩=>
  dq (ho ac s2 U H2 x y v u _ I2 r1 r2 q2) λc s3 ⟨z,H3,I3,r3,q⟩=>?_) hm;obtain⟨k,e,q3⟩:=Dw q;subst e;cases r3;exact bB ⟨H3,I3,q3⟩
def pU (h:PE X e t) (he:∀whole,isTrue e X.env whole=(do let v<-whole;standAt e.pos;holding [v] (truthy v)):=by intro _;rfl):PT X e (nG t):=by intro ac s U H Q I hw;refine isTrue_plain (dq (h ac s U H _ I hw) λv s1 ⟨x,H1,I1,r1,q1⟩=>?_) (he _);obtain⟨d,rfl,q⟩:=Dw q1;cases r1;exact bB ⟨H1,I1,q⟩
def gI {a b:List Stmt}{t u:TS}(hc:PT X c tc) (ha:su X a t) (hb:su X b u):PS X (.If c a b pos) (aa9 tc t u):=by
 intro ac s U H D I h;refine wpAny_If (dq (hc ac s U H _ I h) λd s1 ⟨H1,I1,q1⟩=>?_);cases d with
 |true=>exact ha ac s1 U H1 D I1 q1
 |false=>exact hb ac s1 U H1 D I1 q1
def rX:GF X [] gN:=CQ.wk λv U H Q q=>by
 cases v with
 |nil=>exact⟨rfl,q⟩
 |cons=>cases q
def gY {t:TG}(h1:PG X e t) (h2:GF X es u) (hs:(assignEach (e::es) X.env).map (·.2)=assign e X.env::(assignEach es X.env).map (·.2):=by rfl):GF X (e::es) (gC t u):=(qu h1 h2 hs).wk λv U H Q q=>by
 cases v with
 |nil=>cases q
 |cons v r=>exact⟨v,r,rfl,q⟩
def rY (n:Nat) {t:GD}(h:GF X es t) (hc:X.calm=true:=by rfl) (hn:(assignEach es X.env).length=n:=by rfl) (GI:(assignEach es X.env).findIdx? (·.1)=none:=by rfl):PG X (.Tuple es k pos) (pT n t):=(GH hc h hn GI).wk λv U H Q q=>by
 cases q with
 |mk h e q=>exact⟨_,_,rfl,.inl (.inl h),e,q⟩
def eV:Oz X hE:=QC.wk λx y H Q q=>by
 cases q with
 |mk h e q=>exact⟨_,_,_,_,rfl,rfl,.inl (.inl h),e,q⟩
def kl:Oz X rW:=kE.wk λx y H Q q=>by
 cases q with
 |mk h e q=>exact⟨_,_,_,_,rfl,rfl,.inl (.inl h),e,q⟩
def mw:dR X (.builtin "len") kj:=qC.wk λx H Q q=>by
 cases q with
 |l h q=>exact⟨_,_,rfl,.inl (.inl (.inl h)),q⟩
 |t h q=>exact⟨_,_,rfl,.inr (.inl (.inl h)),q⟩
def jx {x1}(h:PA X es tv):PE X (.Tuple es x1 pos) (u_ tv):=by intro ac s U H Q I hq;refine wpAny_Tuple_spliced (dq (h pos ac s U H _ I hq) λus s1 ⟨xs,H1,I1,r,q0⟩=>?_);have q:=q0.old;have hf:H1 s1.heap.objs.size=none:=I1.dh.fresh (ao _);exact⟨by rw[<-r.length];exact q.1,.ref s1.heap.objs.size,upd H1 s1.heap.objs.size (.tup xs),I1.laid (t':=s1.toks) (λb u e=>af _ e) (ao _) ⟨q.1,us,r,⟨_,av _ rfl,rfl,rfl,_,rfl⟩⟩,rfl,q.2 _ hf⟩
def oU (h:PA X es tv):PE X (.List es pos) (Fw tv):=by intro ac s U H Q I hq;refine wpAny_List_spliced (dq (h pos ac s U H _ I hq) λus s1 ⟨xs,H1,I1,r,q0⟩=>?_);have q:=q0.old;have hf:H1 s1.heap.objs.size=none:=I1.dh.fresh (ao _);exact⟨by rw[<-r.length];exact q.1,.ref s1.heap.objs.size,upd H1 s1.heap.objs.size (.lst xs),I1.laid (t':=s1.toks) (λb u e=>af _ e) (ao _) ⟨q.1,us,0,r,av _ rfl⟩,rfl,q.2 _ hf⟩
def UM (K:Φ) (he:PE X e ta) (hK:X.K=K:=by rfl) (hb:attributeBase e f X.env (eval e X.env)=eval e X.env:=by rfl):PE X (.Attribute e f pos) (aa8 K ta f):=by
 subst hK;intro ac s U H Q I h;refine K3 hb (dq (he ac s U H _ I h) λu s1 ⟨x,H1,I1,rx,q⟩=>?_);cases q with
 |mk ea c n l q=>cases rx;exact Bt I1 ea c n l λu' s2 I2 ru=>⟨_,_,I2,ru,q⟩
def RE {E}(F:cG X.prog X.w X.K X.mg X.base CX k f fd ps sp) (hr:eS k X.A) (hg:Gl X x) (hm:X.mg x=some (.ref f)) (hk:PySem.W.keepIn X.K (.ref f)=true) (hb:Binds X.K fd ps []) (hx:ng CX X E) (ha:PA X (e::es) tv) (s_:(x==("__debug__":Str))=false:=by decide) (he:starEach (e::es) X.env=(false,eval e X.env)::starEach es X.env:=by rfl) (sC:(backTo pos (starEach es X.env)).any (·.1)=false:=by rfl):PE X (.Call (.Name x p) (e::es) [] pos) (o_ sp E tv):=by intro ac s U H Q I h;refine eX (lZ I hg hm ?_ s_);refine oz (h₀:=X.base) I.ok.mod.sk hk (dq (ha pos ac s U H _ I h) λus s1 ⟨vs,H1,I1,r,q⟩=>⟨I1.pJ,?_⟩) he sC;exact xI F hr hb .nil hx I1 r (by rw[dU];exact q)
def RF {CX:CY}{k:Nat}{C f:aq}{m:Str}{fd:FuncData}{ps:Aab}{sp:Sp}{apos:Pos}{E:XK}{o:Expr}{pl:Sem Bool}(he:PE X o ta) (c:CW X.K C) (hm:Bs X.K C m f) (F:cG X.prog X.w X.K X.mg X.base CX k f fd ps sp) (hr:eS k X.A) (hb:Binds X.K fd ps []) (hx:ng CX X E) (ha:PA X (e::es) tv) (GI:starEach (e::es) X.env=(false,eval e X.env)::starEach es X.env:=by rfl) (sC:(backTo pos (starEach es X.env)).any (·.1)=false:=by rfl) (ht:eval (.Call (.Attribute o m apos) (e::es) [] pos) X.env=(do
   let ov<-eval o X.env
   standAt apos.atName
   let(f,first)<-holding [ov] (getMethod ov m pl)
   callWith pos f first (backTo pos (starEach (e::es) X.env)) (backToKw pos (keywordEach [] X.env))):=by rfl):
  PE X (.Call (.Attribute o m apos) (e::es) [] pos) (va C m sp E ta tv):=by
 intro ac s U H Q I h;refine PySem.W.methodCall_KW (pl:=pl) (dq (he ac s U H _ I h) λu s1 ⟨x,H1,I1,rx,q⟩=>?_) ht;cases q with
 |mk ea l q=>cases rx;refine uy I1 ea c hm l ?_;refine oz (first:=[.ref _]) (h₀:=X.base) I.ok.mod.sk hm.kp (dq (ha pos ac s1 U H1 _ I1 q) λus s2 ⟨vs,H2,I2,r,q2⟩=>⟨I2.pJ,?_⟩) GI sC;exact xI (us:=.ref _::us) (vs:=.ref _::vs) F hr hb .nil hx I2 (.cons rfl r) (by rw[dU];exact q2)
def Mw {CX:CY}{k:Nat}{C f:aq}{m:Str}{fd:FuncData}{ps:Aab}{sp:Sp}{apos:Pos}{E:XK}{o:Expr}{pl:Sem Bool}(he:PE X o ta) (c:CW X.K C) (hm:Bs X.K C m f) (F:cG X.prog X.w X.K X.mg X.base CX k f fd ps sp) (hr:eS k X.A) (hb:Binds X.K fd ps []) (hx:ng CX X E) (ht:eval (.Call (.Attribute o m apos) [] [] pos) X.env=(do
   let ov<-eval o X.env
   standAt apos.atName
   let(f,first)<-holding [ov] (getMethod ov m pl)
   callWith pos f first (backTo pos (starEach [] X.env)) (backToKw pos (keywordEach [] X.env))):=by rfl):
  PE X (.Call (.Attribute o m apos) [] [] pos) (va C m sp E ta gk):=by
 intro ac s U H Q I h;refine PySem.W.methodCall_KW (pl:=pl) (dq (he ac s U H _ I h) λu s1 ⟨x,H1,I1,rx,q⟩=>?_) ht;cases q with
 |mk ea l q=>cases rx;refine uy I1 ea c hm l ?_;exact PySem.W.callWith_K0 (first:=[.ref _]) I1.pJ hm.kp (xI (us:=[.ref _]) (vs:=[.ref _]) F hr hb .nil hx I1 (.cons rfl .nil) q)
def IsL.ty {H}{K:Φ} (h:IsL x H):tyV K "list" x H:=by
 cases h with
 |mk h=>exact .inl ⟨rfl,_,.inl (.inl h)⟩
def pV {id:String} (slot:Slot "list" name id) (VL:typeOf (.builtin id)=pure (.type "method_descriptor")) (hm:Kd X id r) (ho:PE X o ta) (ha:PA X (e::es) tv) (zq:attributeBase o name X.env (eval o X.env)=eval o X.env:=by rfl) (aa_:((backTo iH (starEach (e::es) X.env)).all (λx=>!x.1)&&(backToKw iH (keywordEach [] X.env)).all (λx=>x.1.isSome) &&decide ((e::es).length+([]:List Keyword).length+(if([]:List Keyword).isEmpty then 0 else 1)<30))=true:=by rfl) (zu:(apos.endLine==iH.line)=true:=by rfl) (hs:starEach (e::es) X.env=(false,eval e X.env)::starEach es X.env:=by rfl) (RG:(backTo iH (starEach es X.env)).any (·.1)=false:=by rfl):
  PE X (.Call (.Attribute o name apos) (e::es) [] iH) (kBM r ta tv):=by
 intro ac s U H Q I h;refine wpAny_Call_method_late zq aa_ zu rfl (dq (ho ac s U H _ I h) λv s1 ⟨x,H1,I1,r1,ty,q1⟩=>?_);obtain⟨h1,h2⟩:=BE I1 r1 (ty.ty (K:=X.K));refine⟨"list",id,Uu,slot,VL,h1,h2,?_⟩;have hA:=ha iH ac s1 U H1 _ I1 q1;rw[hs] at hA⊢;refine lV (by show(false||(backTo iH (starEach es X.env)).any (·.1))=false;rw[RG]<;>rfl) (Ba ?_);exact dq hA λus s2 ⟨vs,H2,I2,r2,q2⟩=>hm ac s2 U H2 x vs v us Q I2 r1 r2 q2
def OW {id:String} (slot:Slot "list" name id) (VL:typeOf (.builtin id)=pure (.type "method_descriptor")) (hm:Kd X id r) (ho:PE X o ta) (zq:attributeBase o name X.env (eval o X.env)=eval o X.env:=by rfl) (zu:(apos.endLine==iH.line)=true:=by rfl):PE X (.Call (.Attribute o name apos) [] [] iH) (kBM r ta gk):=by intro ac s U H Q I h;refine wpAny_Call_method0_late zq zu (dq (ho ac s U H _ I h) λv s1 ⟨x,H1,I1,r1,ty,q1⟩=>?_);obtain⟨h1,h2⟩:=BE I1 r1 (ty.ty (K:=X.K));exact⟨"list",id,Uu,slot,VL,h1,h2,lV rfl (PySem.evalArgs_none (hm ac s1 U H1 x [] v [] Q I1 r1 .nil q1))⟩
def pf:Kd X "list.append" tF:=λac s U H x xs v us Q I r1 r2 q=>by
 cases q with
 |mk h e q=>exact n_ ac s U H _ _ v us Q I r1 r2 ⟨_,_,_,rfl,rfl,h,bU e δ,q _ (cX.at _) ba⟩
def OX:Kd X "list.pop" Mu:=λac s U H x xs v us Q I r1 r2 q=>by
 cases q with
 |mk h q=>exact QH ac s U H _ _ v us Q I r1 r2 ⟨_,_,_,rfl,rfl,h,(by rw[aA,aE,Nat.add_sub_cancel,dB (ao _),Nat.sub_self];rfl),by rw[vK];exact q _ (cX.at _) ba⟩
def om (K:Φ) (hl:PE X l te) (hK:X.K=K:=by rfl):PI X tg l (iL K te):=by
 subst hK;intro ac s U H R I h;refine dq (hl ac s U H _ I h) λv s1 ⟨x,H1,I1,r1,q1⟩=>?_;cases q1 with
 |mk h0 q=>
  cases r1;obtain⟨bV,rv,p,hz⟩:=I1.list (.inl (.inl h0));refine dQ p.isList ?_;refine⟨s1.heap.objs.size,[s1.heap.objs.size],_,_,H1,rfl,I1.kept (t':=s1.toks) λb o e=>af _ e,wu _ _,⟨_,av _ rfl,rfl,rfl⟩,λb hb=>?_,q⟩;have e:b=s1.heap.objs.size:=by simpa using hb
  subst e;exact I1.pL (ao _) (I1.dh.fresh (ao _))
def Cj (K:Φ) (hl:PE X l te) (hK:X.K=K:=by rfl):PI X tg l (iT K te):=by
 subst hK;intro ac s U H R I h;refine dq (hl ac s U H _ I h) λv s1 ⟨x,H1,I1,r1,q1⟩=>?_;cases q1 with
 |mk h0 q=>
  cases r1;obtain⟨bV,rv,p,hz⟩:=I1.tuple (.inl (.inl h0));refine gG (show s1.heap.IsTuple _ bV.toArray from p) ?_;refine⟨s1.heap.objs.size,[s1.heap.objs.size],_,_,H1,rfl,I1.kept (t':=s1.toks) λb o e=>af _ e,Bo _ _,⟨_,av _ rfl,rfl,rfl⟩,λb hb=>?_,q⟩;have e:b=s1.heap.objs.size:=by simpa using hb
  subst e;exact I1.pL (ao _) (I1.dh.fresh (ao _))
def UN (hg:Gl X "range") (hm:X.mg "range"=none) (ha:PA X [a] tv) (hs:starEach [a] X.env=[(false,eval a X.env)]:=by rfl):PI X tg (.Call (.Name "range" p) [a] [] pos) (iR tv):=by
 intro ac s U H R I h;refine Call_ (kQ I hg hm boot_range (fP (dq (ha pos ac s U H _ I h) λus s1 ⟨vs,H1,I1,r1,q1⟩=>?_) hs rfl));cases q1 with
 |mk h0 h1 q=>
  cases r1 with
  |cons r rr=>cases rr;obtain⟨t,rfl⟩:=r;exact call_range_1 (GO I1 ω ω ω ω (by simpa using q))
end
inductive yk (H:Hp) (Q:VK):Aac->Prop
 |t {p:aq} {xs:Aac} (h:H p=some (.tup xs)) (q:∀l M,bc H M->M l=some (.lst xs)->H l=none->Q (.ref l) M):yk H Q [.ref p]
 |l {p:aq} {xs:Aac} (h:H p=some (.lst xs)) (q:∀l M,bc H M->M l=some (.lst xs)->H l=none->Q (.ref l) M):yk H Q [.ref p]
def aba:Aac->Hp->VK->Prop:=λvs H Q=>yk H Q vs
inductive oV (H:Hp) (Q:VK):Aac->Prop
 |t {p:aq} {xs:Aac} (h:H p=some (.tup xs)) (q:Q (.ref p) H):oV H Q [.ref p]
 |l {p:aq} {xs:Aac} (h:H p=some (.lst xs)) (q:∀l M,bc H M->M l=some (.tup xs)->H l=none->Q (.ref l) M):oV H Q [.ref p]
 |s {p:aq} {xs:Aac} (h:H p=some (.tup xs)\/H p=some (.lst xs)) (q:∀l M,bc H M->M l=some (.tup xs)->Q (.ref l) M):oV H Q [.ref p]
def abb:Aac->Hp->VK->Prop:=λvs H Q=>oV H Q vs
inductive mS (H:Hp) (Q:VK):V->V->Prop
 |mk {a b:aq} {xs ys:Aac} (h1:H a=some (.tup xs)) (h2:H b=some (.tup ys)) (n:xs≠[]) (m:ys≠[]) (l:xs.length+ys.length<=10000) (q:∀p M,bc H M->M p=some (.tup (xs++ys))->H p=none->Q (.ref p) M):mS H Q (.ref a) (.ref b)
 |any {a b:aq} {xs ys:Aac} (h1:H a=some (.tup xs)) (h2:H b=some (.tup ys)) (m:ys≠[]) (l:xs.length+ys.length<=10000) (q:∀p M,bc H M->M p=some (.tup (xs++ys))->Q (.ref p) M):mS H Q (.ref a) (.ref b)
 |l {a b:aq} {xs ys:Aac} (h1:H a=some (.lst xs)) (h2:H b=some (.lst ys)) (l:xs.length+ys.length<=10000) (q:∀p M,bc H M->M p=some (.lst (xs++ys))->H p=none->Q (.ref p) M):mS H Q (.ref a) (.ref b)
def rCt:R2:=λx y H Q=>mS H Q x y
inductive My (neg:Bool) (H:Hp) (Q:VK) (x:V):V->Prop
 |l {p:aq} {xs:Aac} (h:H p=some (.lst xs)) (fx:kF x=true) (fs:xs.all kF=true) (q:Q (.bl (if neg then !Gc x xs else Gc x xs)) H):My neg H Q x (.ref p)
 |t {p:aq} {xs:Aac} (h:H p=some (.tup xs)) (fx:kF x=true) (fs:xs.all kF=true) (q:Q (.bl (if neg then !Gc x xs else Gc x xs)) H):My neg H Q x (.ref p)
def RH (neg:Bool):R2:=λx y H Q=>My neg H Q x y
def Tl (H:Hp) (d:PyData) (v:V):Prop:=∃k,Tells H k d v
inductive Km (f:Bool->Bool) (H:Hp) (Q:VK) (x y:V):Prop
 |mk {dx dy:PyData} (tx:Tl H dx x) (ty:Tl H dy y) (lx:Lay dx) (ly:Lay dy) (q:Q (.bl (f (PyData.eqv dx dy))) H):Km f H Q x y
def W_ (f:Bool->Bool):R2:=λx y H Q=>Km f H Q x y
def kEq (f:Bool->Bool) (Q:VK) (H:Hp):V->V->Prop
 | .int i,.int j=>Q (.bl (f (decide (i=j)))) H
 | .str i,.str j=>Q (.bl (f (decide (i=j)))) H
 |_,_=>False
def Mz (f:Bool->Bool):R2:=λx y H Q=>kEq f Q H x y
def dI (i j:Int):decide (V.int i=V.int j)=decide (i=j):=rC.mpr ⟨V.int.inj,dA _⟩
def dS (i j:Str):decide (V.str i=V.str j)=decide (i=j):=rC.mpr ⟨V.str.inj,dA _⟩
def oQ:gT X (compareOp .Eq) (Mz id):=Vy.wk λx y H Q q=>by cases x<;>cases y<;>first|exact⟨rfl,by rw[dI];exact q⟩|exact⟨rfl,by rw[dS];exact q⟩|cases q
def oN:gT X (compareOp .NotEq) (Mz not):=Ow.wk λx y H Q q=>by cases x<;>cases y<;>first|exact⟨rfl,by rw[dI];exact q⟩|exact⟨rfl,by rw[dS];exact q⟩|cases q
def Fx:dR X (.type "list") aba:=xQ.wk λx H Q q=>by
 cases q with
 |t h q=>exact⟨_,_,rfl,.inr (.inl (.inl h)),λl hl=>q l _ (bZ hl _) ba hl⟩
 |l h q=>exact⟨_,_,rfl,.inl (.inl (.inl h)),λl hl=>q l _ (bZ hl _) ba hl⟩
def tH:dR X (.type "tuple") abb:=vT.wk λx H Q q=>by
 cases q with
 |t h q=>exact⟨_,_,rfl,.inr ⟨.inl (.inl h),q⟩⟩
 |l h q=>exact⟨_,_,rfl,.inl ⟨.inl (.inl h),λl hl=>q l _ (bZ hl _) ba hl⟩⟩
 |s h q=>rcases h with h|h
         .exact⟨_,_,rfl,.inr ⟨.inl (.inl h),q _ _ (λ_ _ e=>e) h⟩⟩
         .exact⟨_,_,rfl,.inl ⟨.inl (.inl h),λl hl=>q l _ (bZ hl _) ba⟩⟩
def Dx:gT X (binaryOp .Add) rCt:=(LH.or QJ).wk λx y H Q q=>by
 cases q with
 |mk h1 h2 n m l q=>exact .inl ⟨_,_,_,_,rfl,rfl,.inl (.inl h1),.inl (.inl h2),m,aB l δ,λe=>absurd e n,λ_ p hp=>q _ _ (bZ hp _) ba hp⟩
 |any h1 h2 m l q=>refine .inl ⟨_,_,_,_,rfl,rfl,.inl (.inl h1),.inl (.inl h2),m,aB l δ,λe=>?_,λ_ p hp=>q _ _ (bZ hp _) ba⟩;subst e;exact q _ _ (λ_ _ z=>z) h2
 |l h1 h2 l q=>exact .inr ⟨_,_,_,_,rfl,rfl,h1,h2,aB l δ,λp hp=>q _ _ (bZ hp _) ba hp⟩
def oIn:gT X (compareOp .In) (RH false):=EH.wk λx y H Q q=>by
 cases q with
 |l h fx fs q=>exact⟨_,_,rfl,.inl (.inl (.inl h)),fx,fs,q⟩
 |t h fx fs q=>exact⟨_,_,rfl,.inr (.inl (.inl h)),fx,fs,q⟩
def RI:gT X (compareOp .NotIn) (RH true):=xO.wk λx y H Q q=>by
 cases q with
 |l h fx fs q=>exact⟨_,_,rfl,.inl (.inl (.inl h)),fx,fs,q⟩
 |t h fx fs q=>exact⟨_,_,rfl,.inr (.inl (.inl h)),fx,fs,q⟩
def oEq (hu:X.A.units+64<cLine):gT X (compareOp .Eq) (W_ id):=(QO hu).wk λx y H Q q=>by obtain⟨⟨k,tx⟩,⟨k',ty⟩,lx,ly,q⟩:=q;exact⟨k,k',_,_,tx,ty,lx,ly,q⟩
def Z4 (hu:X.A.units+64<cLine):gT X (compareOp .NotEq) (W_ not):=(QP hu).wk λx y H Q q=>by obtain⟨⟨k,tx⟩,⟨k',ty⟩,lx,ly,q⟩:=q;exact⟨k,k',_,_,tx,ty,lx,ly,q⟩
def Walk (J:It) (H:Hp) (xs:Aac):Prop:=∀H',bc H H'->∀i,(i=xs.length->J.stop i H')/\(i<xs.length->J.go i H'/\∀x H2,J.vR i H' x H2->H2=H'/\xs[i]?=some x)
def wa {H}{K:Φ} (h:H a=some (.lst xs)):Walk (Gb K a) H xs:=λH' s i=>by have q:gj K H' a xs:=.inl (.inl (s _ _ h));exact⟨λe=>⟨xs,q,el e.symm⟩,λl=>⟨⟨xs,xs[i],q,ag l⟩,λx H2 y=>⟨y.1,y.2 xs q⟩⟩⟩
def OY {H}{K:Φ} (h:H a=some (.tup xs)):Walk (Ot K a) H xs:=λH' s i=>by have q:iY K H' a xs:=.inl (.inl (s _ _ h));exact⟨λe=>⟨xs,q,el e.symm⟩,λl=>⟨⟨xs,xs[i],q,ag l⟩,λx H2 y=>⟨y.1,y.2 xs q⟩⟩⟩
def je {α:Type}{R:V->α->Prop}:∀{xs:Aac}{as:List α},Paired R xs as->∀(i:Nat) (x:V),xs[i]?=some x->∃a,as[i]?=some a/\R x a
 |_,_,.nil,i,x,h=>by cases h
 |_,_,.cons h t,0,x,e=>by cases e;exact⟨_,rfl,h⟩
 |_,_,.cons h t,i+1,x,e=>je t i x e
def ee {α:Type}{R:V->α->Prop}:∀{xs:Aac}{as:List α},Paired R xs as->xs.length=as.length
 |_,_,.nil=>rfl
 |_,_,.cons h t=>dA Nat.succ (ee t)
def xg {α:Type}{R:V->α->Prop}{x:V}{a:α}(h:R x a):∀{xs:Aac}{as:List α},Paired R xs as->Paired R (xs++ [x]) (as++ [a])
 |_,_,.nil=>.cons h .nil
 |_,_,.cons h' t=>.cons h' (xg h t)
def sP {α:Type}{R S:V->α->Prop}(f:∀v a,R v a->S v a):∀{xs:Aac}{as:List α},Paired R xs as->Paired S xs as
 |_,_,.nil=>.nil
 |_,_,.cons h' t=>.cons (f _ _ h') (sP f t)
def Tk (H H':Hp):Prop:=∀b xs,H b=some (.tup xs)->H' b=some (.tup xs)
def bc.vd {H}(h:bc H H'):Tk H H':=λb xs e=>h b _ e
def Kn {J:It}{g:TG}{tc:TT}{te:TE}{kr:St}{H1:Hp}{Q:VK}{D:aq}{α β:Type}{xs:Aac}{as:List α}{R:V->α->Prop}(S:Hp->V->β->Prop) (F:α->Option β) (Fr:St->Prop) (hD:H1 D=none) (wk:Walk J H1 xs) (p:Paired R xs as) (hn:xs.length<=1000) (f0:Fr kr) (hS:∀H H' v b,Tk H H'->S H v b->S H' v b) (st:∀U M x a (N:St->Hp->Prop) (Y:V->St->Hp->Prop),Fr U->bc H1 M->R x a->a∈as->(F a=none->∀cz H2,Fr cz->bc M H2->N cz H2)->(∀y y' cz H2,F a=some y'->Fr cz->bc M H2->S H2 y y'->Y y cz H2)-> g x U M λcz H3=>tc cz H3 λb H4=>if b=true then te cz H4 λy H5=>Y y cz H5 else N cz H4) (q:∀ys M,bc H1 M->M D=some (.lst ys)->Paired (S M) ys (as.filterMap F)->Q (.ref D) M):tj J g tc te kr H1 Q D:=by
 refine Dg (n:=xs.length) (f:=λi=>xs.getD i .e_) (λi ys U M=>Fr U/\bc H1 M/\Paired (S M) ys ((as.take i).filterMap F)) hD hn ⟨f0,bZ hD _,.nil⟩ (λi ys U M hi hy ⟨_,s,_⟩=>⟨(wk M s i).1,λl=>⟨((wk M s i).2 l).1,λx H' y=>?_⟩⟩) ?_ ?_
 .obtain⟨e,e2⟩:=((wk M s i).2 l).2 x H' y;exact⟨e,by rw[aw,e2];rfl⟩
 .rintro i ys U M hi hy ⟨fr,s,pr⟩;have ex:xs[i]?=some (xs.getD i .e_):=by rw[aw,ag hi];rfl
  obtain⟨a,ea,r⟩:=je p i _ ex;have tk:as.take (i+1)=as.take i++ [a]:=by rw[bM,ea];rfl
  rw[tk,iC];refine st U M _ a _ (λy cz H5=>_/\_) fr s r (aY ea) (λef cz H2 f2 s2=>⟨s2 _ _ hy,f2,s.trans s2,?_⟩) λy y' cz H2 ef f2 s2 h2=>⟨s2 _ _ hy,f2,?_,?_⟩
  .rw[show[a].filterMap F=[] by rw[PZ ef];rfl,dU];exact sP (λv b h=>hS _ _ _ _ s2.vd h) pr
  .intro b o e;rw[bN (λz=>by rw[z,hD] at e;cases e)];exact s2 _ _ (s _ _ e)
  .have tD:Tk H2 (upd H2 D (.lst (ys++ [y]))):=λb xs e=>by rw[bN (λz=>by rw[z,s2 _ _ hy] at e;cases e)];exact e
   rw[show[a].filterMap F=[y'] by rw[P0 ef];rfl];exact xg (hS _ _ _ _ tD h2) (sP (λv b h=>hS _ _ _ _ (λb xs e=>tD _ _ (s2 _ _ e)) h) pr)
 .rintro ys U M hy ⟨_,s,pr⟩;rw[show as.take xs.length=as by rw[ee p,bX]] at pr;exact q ys M s hy pr
def Gi {J:It}{g:TG}{te:TE}{kr:St}{H1:Hp}{Q:VK}{D:aq}{α β:Type}{xs:Aac}{as:List α}{R:V->α->Prop}(S:Hp->V->β->Prop) (F:α->β) (Fr:St->Prop) (hD:H1 D=none) (wk:Walk J H1 xs) (p:Paired R xs as) (hn:xs.length<=1000) (f0:Fr kr) (hS:∀H H' v b,Tk H H'->S H v b->S H' v b) (st:∀U M x a (Y:V->St->Hp->Prop),Fr U->bc H1 M->R x a->a∈as->(∀y cz H2,Fr cz->bc M H2->S H2 y (F a)->Y y cz H2)->g x U M λcz H3=>te cz H3 λy H5=>Y y cz H5) (q:∀ys M,bc H1 M->M D=some (.lst ys)->Paired (S M) ys (as.map F)->Q (.ref D) M):tj J g lF te kr H1 Q D:=Kn S (λa=>some (F a)) Fr hD wk p hn f0 hS (λU M x a N Y fr s r ha _ hy=>st U M x a Y fr s r ha λy cz H2 f2 s2 h2=>hy y _ cz H2 rfl f2 s2 h2) λys M s h pr=>q ys M s h (by rw[Vg] at pr;exact pr)
def fmF {α:Type}(p:α->Bool) (l:List α):l.filterMap (λx=>if p x=true then some x else none)=l.filter p:=by
 induction l with
 |nil=>rfl
 |cons a l ih=>
  by_cases h:p a=true
  .rw[P0 (b:=a) (by rw[aJ h]),List.filter_cons_of_pos h,ih]
  .rw[PZ (by rw[aI h]),List.filter_cons_of_neg h,ih]
def pairE {α:Type}{f:α->V}:∀{ys:Aac}{bs:List α},Paired (λv b=>v=f b) ys bs->ys=bs.map f
 |_,_,.nil=>rfl
 |_,_,.cons h t=>by rw[bG,<-pairE t,h]
def kI {α:Type}{f:α->V}:∀{bs:List α},Paired (λv b=>v=f b) (bs.map f) bs
 | []=>.nil
 |_::_=>.cons rfl kI
abbrev TurnOk (D:Ends) (Iv:St->Hp->Prop) (D':Ends):Prop:=(∀U M,Iv U M->D'.nx U M)/\(∀v M,D.rt v M->D'.rt v M)/\(∀U M,Iv U M->D'.ct U M)/\(∀U M,D.nx U M->D'.bk U M)
def ve (J:It) (g:TG) (tb:TS) (D:Ends) (U:St) (H:Hp):Prop:=∃W:Nat->Nat->St->Hp->Prop,(∃m,W 0 m U H)/\∀i m U H,W i m U H-> (J.stop i H/\D.nx U H)\/(J.go i H/\∃N:St->Hp->Prop,(∀de H',N de H'->∃m',m'<m/\W (i+1) m' de H')/\∀x H',J.vR i H x H'->g x U H' λcz H2=>tb {D with nx:=N,ct:=N,bk:=D.nx} cz H2)
def kFor (wi:TI) (g:TG) (tb:TS):TS:=λD U H=>wi U H λJ H1=>ve J g tb D U H1
def lN {U}{H}{K:Φ} (Iv:Nat->St->Hp->Prop) (h0:Iv 0 U H) (hl:∀i U M,Iv i U M->M a=some (.lst xs)) (st:∀i x U M D',xs[i]?=some x->Iv i U M->TurnOk D (Iv (i+1)) D'->g x U M (tb D')) (hd:∀U M,Iv xs.length U M->D.nx U M):ve (Gb K a) g tb D U H:=GP Iv h0 (λi U M _ h=>.inl (.inl (hl i U M h))) (λi x U M e h=>st i x U M _ e h ⟨λ_ _ z=>z,λ_ _ z=>z,λ_ _ z=>z,λ_ _ z=>z⟩) hd
def Ap {U}{H}{K:Φ} (Iv:Nat->St->Hp->Prop) (h0:Iv 0 U H) (hl:∀i U M,Iv i U M->M a=some (.tup xs)) (st:∀i x U M D',xs[i]?=some x->Iv i U M->TurnOk D (Iv (i+1)) D'->g x U M (tb D')) (hd:∀U M,Iv xs.length U M->D.nx U M):ve (Ot K a) g tb D U H:=KS Iv h0 (λi U M _ h=>.inl (.inl (hl i U M h))) (λi x U M e h=>st i x U M _ e h ⟨λ_ _ z=>z,λ_ _ z=>z,λ_ _ z=>z,λ_ _ z=>z⟩) hd
def Dy {U}{H}{lo:Int} (Iv:Nat->St->Hp->Prop) (h0:Iv 0 U H) (st:∀i U M D',i<n->Iv i U M->TurnOk D (Iv (i+1)) D'->g (.int (lo+i)) U M (tb D')) (hd:∀U M,Iv n U M->D.nx U M):ve (Ou lo n) g tb D U H:=EB Iv h0 (λi U M e h=>st i U M _ e h ⟨λ_ _ z=>z,λ_ _ z=>z,λ_ _ z=>z,λ_ _ z=>z⟩) hd
def Im {U}{H}{K:Φ} (Iv:Nat->St->Hp->Prop) (h0:Iv 0 U H) (hl:∀i U M,Iv i U M->M a=some (.lst xs)) (st:∀i x U M D' T M',xs[i]?=some x->Iv i U M->TurnOk D (Iv (i+1)) D'->bc M M'->M' T=some (.tup [.int i,x])->M T=none->g (.ref T) U M' (tb D')) (hd:∀U M,Iv xs.length U M->D.nx U M):ve (UG K a) g tb D U H:=EX Iv h0 (λi U M _ h=>.inl (.inl (hl i U M h))) (λi x U M T e h f=>st i x U M _ T _ e h ⟨λ_ _ z=>z,λ_ _ z=>z,λ_ _ z=>z,λ_ _ z=>z⟩ (bZ f _) ba f) hd
inductive Xa (K:Φ) (R:It->Hp->Prop) (H:Hp):Aac->Prop
 |mk {a:aq} {xs:Aac} (h:H a=some (.lst xs)) (q:R (UG K a) H):Xa K R H [.ref a]
def iE (K:Φ) (ta:TA):TI:=λU H R=>ta U H λvs H1=>Xa K R H1 vs
def Io (c:TT) (tb:TS):TS:=λD U H=>∃W:Nat->St->Hp->Prop,(∃m,W m U H)/\∀m U H,W m U H-> c U H λb H1=>Ci (tb {D with nx:=λde H'=>∃m',m'<m/\W m' de H',ct:=λde H'=>∃m',m'<m/\W m' de H',bk:=D.nx} U H1) (D.nx U H1) b
def Ck {U}{H}(Iv:Nat->St->Hp->Prop) (m:Nat) (h0:Iv m U H) (st:∀m U M (D':Ends),Iv m U M->TurnOk D (λde M'=>∃m',m'<m/\Iv m' de M') D'->c U M λb M1=>Ci (tb D' U M1) (D.nx U M1) b):Io c tb D U H:=⟨Iv,⟨m,h0⟩,λm U M iv=>st m U M _ iv ⟨λ_ _ z=>z,λ_ _ z=>z,λ_ _ z=>z,λ_ _ z=>z⟩⟩
inductive Fy (H:Hp) (Q:VK) (lo hi:Option Int):V->Prop
 |l {a:aq} {xs:Aac} (h:H a=some (.lst xs)) (q:∀p M,bc H M->M p=some (.lst (gO xs lo hi))->H p=none->Q (.ref p) M):Fy H Q lo hi (.ref a)
 |t {a:aq} {xs:Aac} (h:H a=some (.tup xs)) (n:¬(gF xs.length 0 lo=0/\gF xs.length xs.length hi=xs.length)) (q:∀p M,bc H M->M p=some (.tup (gO xs lo hi))->H p=none->Q (.ref p) M):Fy H Q lo hi (.ref a)
def rSl:V->Option Int->Option Int->Hp->VK->Prop:=λx lo hi H Q=>Fy H Q lo hi x
def RJ (Q:Option Int->Hp->Prop) (H:Hp):V->Prop
 | .int i=>Q (some i) H
 |_=>False
def Xb (t:TE):TO:=λU H Q=>t U H λx H1=>RJ Q H1 x
def isN:V->Bool
 | .e_=>true
 |_=>false
def kNn (f:Bool->Bool) (Q:VK) (H:Hp) (x:V):V->Prop
 | .e_=>Q (.bl (f (isN x))) H
 |_=>False
def rNn (f:Bool->Bool):R2:=λx y H Q=>kNn f Q H x y
section
variable {e:Expr}{te:TE}{tv:TA}
def gy (hp:PassesOwn (model X.prog X.w) X.A X.env X.xe) (hc:X.calm=true) (hi:PI X tg iter wi) (hg:PG X tg g) (hb:su X body tb) (hs:∀x,foldedSetIterable iter X.env x=pure x:=by intro _;rfl):PS X (.For tg iter body [] pos) (kFor wi g tb):=Qo hp hc hi hg hb hs
def piE (K:Φ) (hg:Gl X "enumerate") (hm:X.mg "enumerate"=none) (ha:PA X [a] tv) (hK:X.K=K:=by rfl) (hs:starEach [a] X.env=[(false,eval a X.env)]:=by rfl):
  PI X (.Tuple elts kk tp) (.Call (.Name "enumerate" p) [a] [] pos) (iE K tv):=by
 subst hK;intro ac s U H R I h;refine Call_ (kQ I hg hm uH (fP (dq (ha pos ac s U H _ I h) λus s1 ⟨vs,H1,I1,r1,q1⟩=>?_) hs rfl));cases q1 with
 | @mk ad xs hq q=>
  obtain⟨u,rfl,ru⟩:=mB r1;cases(show u=Value.ref ad from ru);obtain⟨bV,rv,tp',hz⟩:=I1.list (.inl (.inl hq));refine BO (show s1.heap.IsList ad bV.toArray from tp'.isList) λh' Hn isI kp=>tV Hn ?_;refine⟨_,[s1.heap.objs.size+1,s1.heap.objs.size],_,_,H1,rfl,I1.kept (t':=s1.toks) kp,BP ad _ _ (rB _),⟨⟨_,Hn⟩,isI⟩,λb hb=>?_,q⟩;simp only[aU,bF,eE] at hb;rcases hb with rfl|rfl
  .exact I1.pL (dg _) (I1.dh.fresh (dg _))
  .exact I1.pL (ao _) (I1.dh.fresh (ao _))
def qz:Uy X rSl:=by
 intro ac s U H x v vl vu lo hi sl Q I rx hs pl pu h;cases h with
 |l h q=>exact C9 ac s U H _ v vl vu lo hi sl Q I rx hs pl pu ⟨_,_,rfl,.inl (.inl h),λp hp=>q p _ (bZ hp _) ba hp⟩
 |t h n q=>exact G_ ac s U H _ v vl vu lo hi sl Q I rx hs pl pu ⟨_,_,rfl,.inl (.inl h),n,λp hp=>q p _ (bZ hp _) ba hp⟩
def tI (h:PE X e te):PO X (some e) (Xb te):=by intro ac s U H Q I hw;rw[evalPart_some];refine dq (h ac s U H _ I hw) λu s1 ⟨x,H1,I1,r1,q1⟩=>?_;cases x<;>first|(obtain⟨t,rfl⟩:=r1;exact⟨some _,H1,I1,.int _ t,q1⟩)|cases q1
def ym (hp:PassesOwn (model X.prog X.w) X.A X.env X.xe) (hc:PT X c tc) (hb:su X body tb):PS X (.While c body [] pos) (Io tc tb):=by
 intro ac s U H D I h;obtain⟨W,⟨m0,w0⟩,turn⟩:=h;refine wpAny_While (codeAny_whileLoop (λn s'=>∃de H',Inv X ac de H' s'/\W n de H') ?_ m0 ⟨U,H,I,w0⟩);rintro n s1 ⟨GG,H1,I1,w1⟩;refine fX hp (dq (hc ac s1 GG H1 _ I1 (turn n GG H1 w1)) λb s2 ⟨H2,I2,q2⟩=>?_);cases b with
 |true=>
  rw[aJ rfl];refine fX hp (dq (hb ac s2 GG H2 _ I2 q2) λf s3 q3=>?_);cases f with
  |next=>obtain⟨Bn,H3,I3,m',hm,w3⟩:=q3;exact⟨m',hm,Bn,H3,I3,w3⟩
  |cont=>obtain⟨Bn,H3,I3,m',hm,w3⟩:=q3;exact⟨m',hm,Bn,H3,I3,w3⟩
  |brk=>exact q3
  |ret v=>exact q3
 |false=>rw[aI bD];exact pF ⟨GG,H2,I2,q2⟩
def Dz:gT X (compareOp .IsNot) (rNn not):=KZ.wk λx y H Q q=>by
 cases y<;>first|(refine⟨rfl,?_⟩;have:decide (x= .e_)=isN x:=by cases x<;>rfl
                  rw[this];exact q)|cases q
end
def Xc (tb:TE) (U:St) (Q:VK) (H:Hp):V->Prop
 | .bl true=>tb U H Q
 | .bl false=>Q (.bl false) H
 |_=>False
def Xd (ta tb:TE):TE:=λU H Q=>ta U H λx H1=>Xc tb U Q H1 x
inductive MB (H:Hp) (Q:VK):V->Prop
 |mk {a:aq} {xs:Aac} (h:H a=some (.lst xs)) (q:∀p M,bc H M->M p=some (.lst xs.reverse)->H p=none->Q (.ref p) M):MB H Q (.ref a)
def abc (i:Nat):TE:=λU H Q=>qv (λx H1=>MB H1 Q x) H (gv U i)
inductive RK (H:Hp) (Q:VK):V->Aac->Prop
 |mk {l:aq} {y:V} {xs:Aac} (h:H l=some (.lst (y::xs))) (q:∀M,cX l H M->M l=some (.lst xs)->Q y M):RK H Q (.ref l) [.int 0]
def Xe:V->Aac->Hp->VK->Prop:=λx vs H Q=>RK H Q x vs
section
variable {a b:Expr}{ta tb:TE}{pos:Pos}{rest:List Expr}
def xh (ha:PE X a ta) (hb:PE X (.BoolOp .And (b::rest) pos) tb):PE X (.BoolOp .And (a::b::rest) pos) (Xd ta tb):=by
 intro ac s U H Q I h;refine BoolOp_and (dq (ha ac s U H _ I h) λv s1 ⟨x,H1,I1,r1,q1⟩=>?_);cases x with
 |bl c=>
  cases r1;refine bB ?_;cases c with
  |true=>exact hb ac s1 U H1 Q I1 q1
  |false=>exact⟨.bl false,H1,I1,rfl,q1⟩
 |_=>cases q1
def kOr (t u:TT):TT:=λU H Q=>t U H λc H1=>Ci (Q true H1) (u U H1 Q) c
def Fz (ha:PT X a tA) (hb:PW X (.BoolOp .Or (b::rest) pos) Ux):PW X (.BoolOp .Or (a::b::rest) pos) (kOr tA Ux):=by
 intro wh ac s U H Q I h;refine isTrue_or (dq (ha ac s U H _ I h) λc s1 ⟨H1,I1,q1⟩=>?_);cases c with
 |true=>exact⟨H1,I1,q1⟩
 |false=>exact hb wh ac s1 U H1 Q I1 q1
def OZ (t u:TT):TT:=λU H Q=>t U H λc H1=>Ci (u U H1 Q) (Q false H1) c
def Aq (ha:PT X a tA) (hb:PW X (.BoolOp .And (b::rest) pos) Ux):PW X (.BoolOp .And (a::b::rest) pos) (OZ tA Ux):=by
 intro wh ac s U H Q I h;refine isTrue_and (dq (ha ac s U H _ I h) λc s1 ⟨H1,I1,q1⟩=>?_);cases c with
 |true=>exact hb wh ac s1 U H1 Q I1 q1
 |false=>exact⟨H1,I1,q1⟩
def Xf (i:Nat) {st:Expr}(he:PE X (.Name x p1) (vC i)) (GI:PE X st (λ_ H Q=>Q (.int (-1)) H)) (EM:∀v key:ai,∃ops,subscripted (.Slice none none (some st) p2) false v key=operate ops (getItem v key):=by exact λv key=>⟨[v,key],rfl⟩):
  PE X (.Subscript (.Name x p1) (.Slice none none (some st) p2) pos) (abc i):=(Lz he GI EM).wk λU H Q q=>by
 show qv _ H (gv U i);have q:qv (λx H1=>MB H1 Q x) H (gv U i):=q;cases e:gv U i with
 |none=>rw[e] at q;cases q
 |some v=>
  rw[e] at q;cases q with
  |mk h q=>exact⟨_,_,rfl,rfl,.inl (.inl h),λp hp=>q p _ (bZ hp _) ba hp⟩
def RL:Kd X "list.pop" Xe:=λac s U H x xs v us Q I r1 r2 q=>by
 cases q with
 |mk h q=>exact zx ac s U H _ _ v us Q I r1 r2 ⟨_,_,0,0,_,rfl,rfl,h,δ,δ,(by unfold seqIndex?;simp),rfl,q _ (cX.at _) ba⟩
end
local macro_rules
 | `(tactic| exists $h, $o, $H, $t, $s, $w, $M) => do
  let f (x : Lean.TSyntax `term) : Lean.TSyntax `ident := ⟨x.raw⟩
  `(tactic| (have $(f s):ident := bZ $h $o; have $(f w):ident : upd $H $t $o $t = some $o := ba; (try dsimp only); generalize upd $H $t $o = $(f M):ident at *))
inductive yo (K:Φ) (H:Hp) (Q:VK):V->V->Prop
 |mk {a b:aq} {xs ys:Aac} (h1:gj K H a xs) (h2:H b=some (.lst ys)) (l:xs.length+ys.length<=10000) (q:∀p M,bc H M->M p=some (.lst (xs++ys))->H p=none->Q (.ref p) M):yo K H Q (.ref a) (.ref b)
def rCs (K:Φ):R2:=λx y H Q=>yo K H Q x y
inductive Ip (K:Φ) (lo hi:Option Int) (R:It->Hp->Prop) (H:Hp):V->Prop
 |mk {a:aq} {ns:List Int} (h:gj K H a (ns.map V.int)) (q:∀p M (cs:List Int),bc H M->H p=none->M p=some (.lst (cs.map V.int))->cs.length<=max 1 (gO (ns.map V.int) lo hi).length->R (Gb K p) M):Ip K lo hi R H (.ref a)
def RM (K:Φ) (i:Nat) (lo hi:Option Int):TI:=λU H R=>vC i U H λx H1=>Ip K lo hi R H1 x
def vC.imp {U}{H}(h:vC i U H Q) (k:∀x,Q x H->Q' x H):vC i U H Q':=by
 unfold vC at*;cases e:gv U i with
 |none=>rw[e] at h;cases h
 |some v=>rw[e] at h;exact k _ h
def Ai (ns:List Int) (lo hi:Option Int):∃cs:List Int,gO (ns.map V.int) lo hi=cs.map V.int:=by unfold gO;exact⟨(ns.drop _).take _,by rw[qg,PX]⟩
section
variable {e z:Expr}{tg:Expr}{lo hi:Option Expr}{tl th:TO}{p2 p3 p5:Pos}
def RN (K:Φ) (hK:X.K=K:=by rfl):gT X (binaryOp .Add) (rCs K):=by
 subst hK;exact Lx.wk λx y H Q q=>by
  cases q with
  |mk h1 h2 l q=>exact⟨_,_,_,_,rfl,rfl,h1,gj.of h2,aB l δ,λp hp=>q p _ (bZ hp _) ba hp⟩
def MD (K:Φ) (i:Nat) (hx:PE X e (vC i)) (pl:PO X lo tl) (ph:PO X hi th) (hl:∀U H Q,Q l H->tl U H Q) (hh:∀U H Q,Q h H->th U H Q) (hz:PE X z (Fw (dF (tC (.int 0)) gk))) (hK:X.K=K:=by rfl):
  PI X tg (.BoolOp .Or [.Subscript e (.Slice lo hi none p2) p3,z] p5) (RM K i l h):=by
 subst hK;intro ac s U H R I q;refine KR (Q9 (gx C9 hx pl ph) (ma hz)) ac s U H R I ?_;unfold Ov Wa tSl;show vC i U H _;refine vC.imp q λx q=>?_;cases q with
 | @mk a ns hs q=>
  refine hl _ _ _ (hh _ _ _ ⟨_,_,rfl,hs,λp hp=>?_⟩);exists hp,.lst (gO (ns.map V.int) l h),H,p,s1,w1,M1;obtain⟨cs,ec⟩:=Ai ns l h;have lc:(gO (ns.map V.int) l h).length=cs.length:=by rw[ec,ah]
  rw[lc] at q;refine⟨_,.inl ⟨_,gj.of w1,rfl⟩,?_⟩;refine oJ (λ_=>?_) (λ_=>?_)
  .rw[ec] at w1;exact⟨p,rfl,⟨_,gj.of w1⟩,q p M1 cs s1 hp w1 (Nat.le_max_right _ _)⟩
  .refine cU.mk rfl λp2 M2 s2 w2 n2=>⟨p2,rfl,⟨_,gj.of w2⟩,q p2 M2 [0] (s1.trans s2) ?_ w2 (Nat.le_max_left _ _)⟩;cases e:H p2 with
   |none=>rfl
   |some o=>rw[s1 _ _ e] at n2;cases n2
end
def abd (C:Int->Int->Prop) (g:Int->Int->V) (Q:VK) (H:Hp):V->V->Prop
 | .int i,.int j=>C i j/\Q (g i j) H
 |_,_=>False
def rKc (C:Int->Int->Prop) (g:Int->Int->V):R2:=λx y H Q=>abd C g Q H x y
def Xg (Q:VK) (H:Hp):Aac->Prop
 | [.int i,.int j]=>Q (.int (if j<i then j else i)) H
 |_=>False
def rMn:Aac->Hp->VK->Prop:=λvs H Q=>Xg Q H vs
inductive ME (H:Hp) (Q:VK):V->Aac->Prop
 |mk {l:aq} {xs:Aac} {i:Int} {y:V} (h:H l=some (.lst xs)) (n:xs.length<=10000) (h0:0<=i) (h1:i<=xs.length) (q:∀M,cX l H M->M l=some (.lst (xs.take i.toNat++y::xs.drop i.toNat))->Q .e_ M):ME H Q (.ref l) [.int i,y]
def Xh:V->Aac->Hp->VK->Prop:=λx vs H Q=>ME H Q x vs
inductive RO (H:Hp) (Q:VK):V->Aac->Prop
 |mk {l:aq} {xs:Aac} {i:Int} {y:V} (h:H l=some (.lst xs)) (n:i<=10000) (h0:0<=i) (e:xs[i.toNat]?=some y) (q:∀M,cX l H M->M l=some (.lst (xs.eraseIdx i.toNat))->Q y M):RO H Q (.ref l) [.int i]
def Xi:V->Aac->Hp->VK->Prop:=λx vs H Q=>RO H Q x vs
inductive we (H:Hp) (Q:VK):Aac->Prop
 |mk {p:aq} {ss:Aab} (h:H p=some (.lst (ss.map V.str))) (l:ss.length<=63) (q:∀l zs M,bc H M->M l=some (.lst (zs.map V.str))->H l=none->zs.Perm ss->sortedS zs=true->Q (.ref l) M):we H Q [.ref p]
def rSS:Aac->Hp->VK->Prop:=λvs H Q=>we H Q vs
def itN {A B:Prop}(h:b=false) (x:B):if b=true then A else B:=by rw[h];exact x
def itY {A B:Prop}(h:b=true) (x:A):if b=true then A else B:=by rw[h];exact x
def bc.pj {H}(s:bc H H') (h:H' a=none):H a=none:=by
 cases e:H a with
 |none=>rfl
 |some o=>rw[s _ _ e] at h;cases h
def DH:bootBuiltins "min"=some (.builtin "min"):=η
def ik:bootBuiltins "sorted"=some (.builtin "sorted"):=η
def yX (h:gT X f (rI C g)):gT X f (rKc C g):=h.wk λx y H Q q=>by cases x<;>cases y<;>first|exact⟨_,_,rfl,rfl,q.1,q.2⟩|cases q
def abe (hc:X.calm=true:=by rfl):dR X (.builtin "min") rMn:=(ED hc).wk λx H Q q=>by
 unfold rMn Xg at q;split at q
 .exact⟨_,_,rfl,q⟩
 .cases q
def Iq:Kd X "list.insert" Xh:=λac s U H x vs v us Q I r1 r2 q=>by
 cases q with
 |mk h n h0 h1 q=>exact EL ac s U H _ _ v us Q I r1 r2 ⟨_,_,_,_,rfl,rfl,h,bU n δ,h0,h1,q _ (cX.at _) ba⟩
def RP:Kd X "list.pop" Xi:=λac s U H x vs v us Q I r1 r2 q=>by
 cases q with
 | @mk l xs i y h n h0 e q=>have hi:=(aF.mp e).1;refine zx ac s U H _ _ v us Q I r1 r2 ⟨_,_,i,i.toNat,_,rfl,rfl,h,ω,ω,?_,e,q _ (cX.at _) ba⟩;exact(xM (by unfold Kc;rw[aJ h0,aJ ω])).1
def O0:dR X (.builtin "sorted") rSS:=xZ.wk λx H Q q=>by
 cases q with
 |mk h l q=>exact⟨_,_,rfl,gj.of h,Nat.lt_succ_of_le l,λl zs hl p so=>q l zs _ (bZ hl _) ba hl p so⟩
section
open PySem.W
section
variable {k:Nat}{x:Str}{ps:Aab}{sp:Sp}{e:Expr}{es:List Expr}{t:TA}{p pos:Pos}
def pD (D:Df X.prog X.w X.K X.mg X.base k x ps sp) (hr:eS k X.A) (ha:PA X (e::es) t) (hg:Gl X x:=by rfl) (s_:(x==("__debug__":Str))=false:=by decide) (he:starEach (e::es) X.env=(false,eval e X.env)::starEach es X.env:=by rfl) (sC:(backTo pos (starEach es X.env)).any (·.1)=false:=by rfl):PE X (.Call (.Name x p) (e::es) [] pos) (o_ sp E0 t):=by obtain⟨f,fd,F,b,kp,m⟩:=D;exact RE F hr hg m kp b wH ha s_ he sC
def Df.imp (D:Df P w K mg base k x ps sp) (h:∀vs H Q E,ZJ vs H Q E->sp vs H Q E):Df P w K mg base k x ps ZJ:=by obtain⟨f,fd,F,b,kp,m⟩:=D;exact⟨f,fd,F.imp h,b,kp,m⟩
end
inductive Ir (p:PyData->Bool) (H:Hp) (Q:VK):Aac->Prop
 |mk {k:aq} {d:PyData} {v:V} (t:Tells H k d v) (f:QT d) (q:∀H',bc H H'->Q (.bl (p d)) H'):Ir p H Q [v]
def yq (p:PyData->Bool):Sp:=λvs H Q _=>Ir p H Q vs
def yq.old (vs:Aac) (H:Hp) (Q:VK) (E:XK) (h:yq p vs H Q E):OS p vs H Q E:=by obtain⟨t,f,q⟩:=h;exact⟨_,_,_,rfl,t,f,q⟩
def Ar {H}(d:dE H k c):∀xs,H k≠some (.tup xs):=λxs z=>by obtain⟨⟨_,_,h1,_⟩,_⟩:=d;rw[h1] at z;cases z
def iz {H}(d:dE H k c) (s:bc H H'):dE H' k c:=d.keep λo e=>s _ _ e
def nI {H}(d:dE H k c) (s:cX k H H'):Tk H H':=λb xs e=>s _ _ (λz=>Ar d xs (z▸e)) e
def nJ (k:aq) (b:Int) (n:Nat) (H:Hp):Prop:=∃c,dE H k c/\c<=b+n/\b<=50000
def nJ.of {H}(d:dE H k c) (h:c<=50000):nJ k c 0 H:=⟨c,d,Int.le_of_eq (Int.add_zero c).symm,h⟩
section
variable {k:aq}{b:Int}{n:Nat}{H H':Hp}
def nJ.same (d:nJ k b n H) (s:bc H H'):nJ k b n H':=let⟨c,h1,h2⟩:=d;⟨c,iz h1 s,h2⟩
def nJ.keep (d:nJ k b n H) (s:∀o,H k=some o->H' k=some o):nJ k b n H':=let⟨c,h1,h2⟩:=d;⟨c,h1.keep s,h2⟩
def nJ.ne (d:nJ k b n H) (h:H p=none):p≠k:=let⟨_,h1,_⟩:=d;(h1.ne h).symm
def nJ.tk (d:nJ k b n H) (s:cX k H H'):Tk H H':=let⟨_,h1,_⟩:=d;nI h1 s
def nJ.le (d:nJ k b n H) (h:n<=m):nJ k b m H:=let⟨c,h1,h2,h3⟩:=d;⟨c,h1,ji h2 (Int.add_le_add_left (A7.mpr h) b),h3⟩
def nJ.out (d:nJ k b n H):∃c,dE H k c/\c<=b+n:=let⟨c,h1,h2,_⟩:=d;⟨c,h1,h2⟩
end
inductive xi (H:Hp) (Q:VK):Aac->Prop
 |mk {k:aq} {c n:Int} (d:dE H k c) (hc:c<=100000) (h1:0<n) (h2:n<=10000000000000) (q:∀(r c':Int) (H':Hp),cX k H H'->dE H' k c'->c'<=c+1->0<=r->r<n->Q (.int r) H'):xi H Q [.ref k,.int n]
def As:Sp:=λvs H Q _=>xi H Q vs
inductive vg (H:Hp) (Q:VK):Aac->Prop
 |mk {k:aq} {b m:Int} {n:Nat} (d:nJ k b n H) (hn:n<=50000) (h1:0<m) (h2:m<=10000000000000) (q:∀(r:Int) (H':Hp),cX k H H'->nJ k b (n+1) H'->0<=r->r<m->Q (.int r) H'):vg H Q [.ref k,.int m]
def Gj:Sp:=λvs H Q _=>vg H Q vs
def Gj.old (vs:Aac) (H:Hp) (Q:VK) (E:XK) (h:Gj vs H Q E):As vs H Q E:=by obtain⟨⟨c,dc,hc,hb⟩,hn,h1,h2,q⟩:=h;exact xi.mk dc ω h1 h2 λr c' H' k d u g l=>q r H' k ⟨c',d,ω,hb⟩ g l
inductive WtI (H:Hp) (Q:VK):Aac->Prop
 |mk {k:aq} {c:Int} (d:dE H k c) (hc:c<=50000) (q:∀(r c':Int) (H':Hp),cX k H H'->dE H' k c'->c'<=c+4->1<=r->r<=1000000->Q (.int r) H'):WtI H Q [.ref k]
def WtC:Sp:=λvs H Q _=>WtI H Q vs
inductive Cm (H:Hp) (Q:VK):Aac->Prop
 |mk {k:aq} {c n:Int} (d:dE H k c) (hc:c<=50000) (h1:0<=n) (h2:n<=8) (q:∀(p:aq) (ns:Aab) (c':Int) (H':Hp),cX k H H'->dE H' k c'->c'<=c+n->p≠k->H p=none->H' p=some (.lst (ns.map V.str))->(ns.length:Int)=n->(∀n∈ns,okN n)->ns.Nodup->Q (.ref p) H'):Cm H Q [.ref k,.int n]
def Iu:Sp:=λvs H Q _=>Cm H Q vs
inductive PcI (H:Hp) (Q:VK):Aac->Prop
 |mk {k p:aq} {c:Int} {ns:Aab} (d:dE H k c) (hc:c<=20000) (n:p≠k) (h:H p=some (.lst (ns.map V.str))) (l2:2<=ns.length) (l12:ns.length<=12) (ok:∀n∈ns,okN n) (nd:ns.Nodup) (q:∀(r:aq) (pc:oi) (c':Int) (H':Hp),cX k H H'->dE H' k c'->c'<=c+60->oS H' r pc->gW pc->jd pc->Q (.ref r) H'):PcI H Q [.ref k,.ref p]
def PcC:Sp:=λvs H Q _=>PcI H Q vs
inductive LxI (H:Hp) (Q:VK):Aac->Prop
 |mk {k r:aq} {c:Int} {p:oi} (d:dE H k c) (hc:c<=40000) (h:oS H r p) (o:gW p) (cr:jd p) (q:∀(t:aq) (p':oi) (m y:Str) (c':Int) (H':Hp),cX k H H'->dE H' k c'->c'<=c+10->oS H' t p'->gW p'->Xp p p' m y->Q (.ref t) H'):LxI H Q [.ref k,.ref r]
def LxC:Sp:=λvs H Q _=>LxI H Q vs
def Iw (k:aq) (J:It) (H:Hp) (xs:Aac):Prop:=∀H',cX k H H'->∀i,(i=xs.length->J.stop i H')/\(i<xs.length->J.go i H'/\∀x H2,J.vR i H' x H2->H2=H'/\xs[i]?=some x)
def abf {H}(n:a≠k) (h:H a=some (.lst xs)):Iw k (Gb K a) H xs:=λH' s i=>by have q:gj K H' a xs:=.inl (.inl (s _ _ n h));exact⟨λe=>⟨xs,q,el e.symm⟩,λl=>⟨⟨xs,xs[i],q,ag l⟩,λx H2 y=>⟨y.1,y.2 xs q⟩⟩⟩
def Xj {H}:Iw k (Ou 0 n) H ((List.range n).map λ(i:Nat)=>V.int i):=λH' s i=>by rw[ah,p_];refine⟨λe=>el e.symm,λl=>⟨l,λx H2 y=>⟨y.1,?_⟩⟩⟩;rw[y.2,aR,mW l];show some (V.int i)=_;rw[Int.zero_add]
def lcN {J:It}{g:TG}{te:TE}{kr:St}{H1:Hp}{Q:VK}{D k:aq}{b:Int}{n m:Nat}{α β:Type}{xs:Aac}{as:List α}{R:V->α->Prop}(S:Hp->V->β->Prop) (Pz:α->β->Prop) (Fr:St->Prop) (hD:H1 D=none) (d:nJ k b n H1) (wk:Iw k J H1 xs) (p:Paired R xs as) (hn:xs.length<=1000) (f0:Fr kr) (hS:∀H H' v b,Tk H H'->S H v b->S H' v b) (st:∀U M x a i (Y:V->St->Hp->Prop),Fr U->cX k H1 M->nJ k b (n+m*i) M->i<as.length->R x a->a∈as->(∀y z cz H2,Fr cz->cX k M H2->nJ k b (n+m*i+m) H2->S H2 y z->Pz a z->Y y cz H2)->g x U M λcz H3=>te cz H3 λy H5=>Y y cz H5) (q:∀ys bs M,cX k H1 M->nJ k b (n+m*as.length) M->M D=some (.lst ys)->Paired (S M) ys bs->Paired Pz as bs->Q (.ref D) M):tj J g lF te kr H1 Q D:=by
 have nD:D≠k:=d.ne hD;have lp:=ee p;refine Hk (n:=xs.length) (f:=λi=>xs.getD i .e_) (λi ys U M=>Fr U/\cX k H1 M/\∃bs,nJ k b (n+m*i) M/\Paired (S M) ys bs/\Paired Pz (as.take i) bs) hD hn ⟨f0,cX.new hD _,[],d.same (bZ hD _),.nil,.nil⟩ (λi ys U M hi hy ⟨_,s,_⟩=>⟨(wk M s i).1,λl=>⟨((wk M s i).2 l).1,λx H' y=>?_⟩⟩) ?_ ?_
 .obtain⟨e,e2⟩:=((wk M s i).2 l).2 x H' y;exact⟨e,by rw[aw,e2];rfl⟩
 .rintro i ys U M hi hy ⟨fr,s,bs,dM,pr,pz⟩;have ex:xs[i]?=some (xs.getD i .e_):=by rw[aw,ag hi];rfl
  obtain⟨a,ea,r⟩:=je p i _ ex;have tk:as.take (i+1)=as.take i++ [a]:=by rw[bM,ea];rfl
  refine st U M _ a i (λy cz H5=>_/\_) fr s dM (lp▸hi) r (aY ea) λy z cz H2 f2 s2 d2 h2 hz=>⟨s2 _ _ nD hy,f2,?_,bs++ [z],?_,?_,?_⟩
  .intro b o n e;rw[bN (λz=>by rw[z,hD] at e;cases e)];exact s2 _ _ n (s _ _ n e)
  .rw[show n+m*(i+1)=n+m*i+m by rw[Nat.mul_succ,Nat.add_assoc]];exact d2.keep λo e=>by rw[bN nD.symm];exact e
  .have tD:Tk H2 (upd H2 D (.lst (ys++ [y]))):=λb xs e=>by rw[bN (λz=>by rw[z,s2 _ _ nD hy] at e;cases e)];exact e
   exact xg (hS _ _ _ _ tD h2) (sP (λv b h=>hS _ _ _ _ (λb xs e=>tD _ _ (dM.tk s2 _ _ e)) h) pr)
  .rw[tk];exact iI pz hz
 .rintro ys U M hy ⟨_,s,bs,dM,pr,pz⟩;rw[show as.take xs.length=as by rw[lp,bX]] at pz;exact q ys bs M s (by rw[<-lp];exact dM) hy pr pz
abbrev sPc:Stmt:=top 71
def Xk:List (Str×NameKind):=[(".0",.local),("k",.local),("_law_pick",.globalImplicit),("deck",.free)]
def Xl:(["k","deck"]:Aab).Nodup:=η
def Iy {ss sA sB:Aab}(nd:ss.Nodup) (pA:sA.Perm (ss.take m)) (pB:sB.Perm ((ss.drop m).take m)) (oA:PyProof.Rows.sortedS sA=true) (oB:PyProof.Rows.sortedS sB=true):Up sA/\Up sB/\∀n∈sA,n∉sB:=by have h1:(ss.take m).Nodup:=nd.sublist (A5 _ _);have h2:((ss.drop m).take m).Nodup:=(nd.sublist (List.drop_sublist _ _)).sublist (A5 _ _);refine⟨jq oA (pA.nodup_iff.mpr h1),jq oB (pB.nodup_iff.mpr h2),λn hA hB=>?_⟩;have a:=pA.mem_iff.mp hA;have b:=gH (pB.mem_iff.mp hB);rw[<-fw m ss,fg] at nd;exact nd.2.2 n a n b rfl
def Au {ss ns:Aab}(h:ss.Perm (ns.take i)) (hi:i<ns.length):(ss.take r++ns[i]::ss.drop r).Perm (ns.take (i+1)):=by rw[bM,ag hi,Option.toList_some];refine List.perm_middle.trans ?_;rw[fw];exact(List.Perm.cons _ h).trans (List.perm_append_singleton _ _).symm
def Xm (ga:0<=a) (la:a<9) (gb:0<=b) (lb:b<60) (g:0<=r) (l:r<3):∃t:Int,xK [V.int (1+a),V.int (300+b),V.int ((10:Int)^(9:Int).toNat)] r=some (.int t)/\1<=t/\t<=1000000000:=by
 have:r=0\/r=1\/r=2:=ω;rcases this with rfl|rfl|rfl
 .exact⟨_,a_ (j:=0) rfl,ω,ω⟩
 .exact⟨_,a_ (j:=1) rfl,ω,ω⟩
 .exact⟨_,a_ (j:=2) rfl,δ,δ⟩
def MF (ga:0<=a) (la:a<12) (g:0<=r) (l:r<4):∃t:Int,xK [V.int 1,V.int 2000,V.int (1+a),V.int ((10:Int)^(9:Int).toNat)] r=some (.int t)/\1<=t/\t<=1000000000:=by
 have:r=0\/r=1\/r=2\/r=3:=ω;rcases this with rfl|rfl|rfl|rfl
 .exact⟨_,a_ (j:=0) rfl,δ,δ⟩
 .exact⟨_,a_ (j:=1) rfl,δ,δ⟩
 .exact⟨_,a_ (j:=2) rfl,ω,ω⟩
 .exact⟨_,a_ (j:=3) rfl,δ,δ⟩
def MG {n:Nat}(l2:2<=n):∃M:Int,(if(n:Int)/2<4 then(n:Int)/2 else 4)=M/\0<M/\M<=10000000000000/\∀r:Int,0<=r->r<M->∃m:Nat,1+r=m/\1<=m/\m<=4/\2*m<=n:=by refine⟨_,rfl,?_⟩;split<;>exact⟨ω,ω,λr g l=>⟨(1+r).toNat,ω,ω,ω,ω⟩⟩
def Iz {ss:Aab}(h:2*m<=ss.length):gO (ss.map V.str) none (some (m:Int))=(ss.take m).map V.str/\gO (ss.map V.str) (some (m:Int)) (some (2*(m:Int)))=((ss.drop m).take m).map V.str:=by unfold gO;rw[show(2*(m:Int))=((2*m:Nat):Int) from rfl,jD,ju,ju,ju,ah,show min m ss.length=m by omega,show min (2*m) ss.length=2*m by omega,List.drop_zero,show 2*m-m=m by omega];exact⟨qg.symm,by rw[qg,PX]⟩
def RQ (F:gX K "_law_piece" "_law_piece" sPc f fd) (T:Txt mg) (DP:Df P w K mg base 1 "_law_pick" ["deck","many"] Gj):cG P w K mg base fK 2 f fd ["deck","names"] PcC:=by
 have sc:bx ["deck","names","many","order","name","times","course","crews"] ["deck","names"] (aP sPc):={};exists sc;refine⟨_,az (iQ (i:=2) sc.nd (bQ (oK fF) aH (pD DP hr (ae (pC 0) (ae (bj abe rfl T.min DH (ae aH (ae (bQ (yX tY) (bj mw rfl T.len bY (ae (pC 1) aj)) aH) aj))) aj))))) (az (iQ (i:=3) sc.nd (oU aj)) (az (gy bz rfl (om K (pC 1)) (aM (i:=4) sc.nd) (aO (eR (pV qm qo Iq (pC 3) (ae (pD DP hr (ae (pC 0) (ae (bQ (oK fF) (bj mw rfl T.len bY (ae (pC 3) aj)) aH) aj))) (ae (pC 4) aj)))))) (az (ny (i0:=5) (N:=["k","deck"]) (g:=d_ 0) (tc:=lF) sc.nd rfl (Or.inl rfl) rfl (UN rfl T.range (ae aH aj)) (cY.one (v:="k") (fr:="deck") (j:=0) (nm:=Xk) rfl rfl rfl rfl) (λ_ _ _=>aM (i:=0) Xl) (λ_ _ _=>eD) (te:=oH rW (Fw (dF (oH (rK λi j=>.int (i+j)) (tC (.int 1)) (o_ Gj E0 (dF (vC 1) (dF (tC (.int 9)) gk)))) (dF (oH (rK λi j=>.int (i+j)) (tC (.int 300)) (o_ Gj E0 (dF (vC 1) (dF (tC (.int 60)) gk)))) (dF (oH (rKc Vw λi j=>.int (i^j.toNat)) (tC (.int 10)) (tC (.int 9))) gk)))) (o_ Gj E0 (dF (vC 1) (dF (tC (.int 3)) gk)))) (λ_ _ _=>bW kl (oU (ae (bQ (oK fF) aH (pD DP hr (ae (pC 1) (ae aH aj)))) (ae (bQ (oK fF) aH (pD DP hr (ae (pC 1) (ae aH aj)))) (ae (bQ (yX me) aH aH) aj)))) (pD DP hr (ae (pC 1) (ae aH aj))))) (az (iQ (i:=6) sc.nd (bW kl (oU (ae aH (ae aH (ae (bQ (oK fF) aH (pD DP hr (ae (pC 0) (ae aH aj)))) (ae (bQ (yX me) aH aH) aj))))) (pD DP hr (ae (pC 0) (ae aH aj))))) (az (iQ (i:=7) sc.nd (jx (ae (dO tH rfl T.tuple bO (ae (bj O0 rfl T.sorted ik (ae (gx qz (pC 3) jv (tI (pC 2))) aj)) aj)) (ae (dO tH rfl T.tuple bO (ae (bj O0 rfl T.sorted ik (ae (gx qz (pC 3) (tI (pC 2)) (tI (bQ (yX kS) aH (pC 2)))) aj)) aj)) aj)))) (aO (bK (bQ Dx (pC 7) (jx (ae (bW kl (pC 5) aH) (ae (bW kl (pC 5) aH) (ae (pC 6) aj)))))))))))),?_⟩;obtain @⟨k,p,c,ns,d,hc,npk,hp,l2,l12,ok,nd,q⟩:=h;obtain⟨Mx,eM,M0,M9,hM⟩:=MG l2;refine kj.l hp ⟨⟨δ,δ⟩,?_⟩;show vg _ _ [_,.int (if((ns.map V.str).length:Int)/2<4 then((ns.map V.str).length:Int)/2 else 4)];rw[ah,eM];refine vg.mk (nJ.of d (ji hc δ)) δ M0 M9 λr M1 k1 d1 g1 l1=>cU.mk rfl λfo M2 s2 w2 n2=>?_;obtain⟨m,em,m1,m4,m2⟩:=hM r g1 l1;have Xn:fo≠k:=d1.ne n2;have kH:cX k H M2:=k1.trans s2.keep;have ZQ:M2 p=some (.lst (ns.map V.str)):=kH _ _ npk hp;have npf:p≠fo:=λz=>by rw[z] at hp;rw[k1 _ _ Xn hp] at n2;cases n2
 refine mZ.mk ZQ (lN (λi U M=>∃v ss,U=[some (.ref k),some (.ref p),some (.int (1+r)),some (.ref fo),v,none,none,none]/\(∀y o,y≠k->y≠fo->M2 y=some o->M y=some o)/\nJ k c (1+i) M/\M fo=some (.lst (ss.map V.str))/\ss.Perm (ns.take i)) ⟨_,[],rfl,λ_ _ _ _ e=>e,d1.same s2,w2,.nil⟩ (λi U M ⟨_,_,_,h,_⟩=>h _ _ npk npf ZQ) ?_ ?_)
 .rintro i x U M D' hx ⟨v,ss,rfl,kM,dM,hF,pm⟩ ⟨nx,_⟩;have hi:i<ns.length:=by have:=(aF.mp hx).1;rwa[ah] at this
  rw[aR,ag hi] at hx;obtain rfl:=bf hx;have ls:(ss.map V.str).length=i:=by rw[ah,pm.length_eq,b_];omega
  refine⟨IsL.mk hF,kj.l hF (vg.mk dM ω (by rw[ls];omega) (by rw[ls];omega) λr2 M3 k3 d3 g3 l3=>ME.mk (k3 _ _ Xn hF) ω g3 ω λM4 k4 w4=>nx _ _ ⟨_,_,rfl,λy o n1 n2 e=>k4 _ _ n2 (k3 _ _ n1 (kM _ _ n1 n2 e)),d3.keep λo e=>k4 _ _ Xn.symm e,?_,Au (r:=r2.toNat) pm hi⟩)⟩;rw[w4,uY]
 rintro U M3 ⟨v,ss,rfl,kM,d3,hF,pm⟩;rw[ah] at d3 pm;rw[bX] at pm;have Kl:∀n∈ss,okN n:=λn hn=>ok n (pm.mem_iff.mp hn);have ls:=pm.length_eq;refine OV.mk δ δ λD hD=>lcN (m:=3) (λ_ v t=>v=V.int t) (λ(_:Nat) t=>1<=t/\t<=1000000000) (λU=>∃v,U=[v,some (.ref k)]) hD d3 Xj kI δ ⟨_,rfl⟩ (λ_ _ _ _ _ e=>e) ?_ ?_
 .rintro U M x a i Y ⟨v,rfl⟩ kx dx hi rfl _ hy;have hi:i<2:=hi;refine vg.mk dx ω δ δ λra Ma ka da ga la=>vg.mk da ω δ δ λrb Mb kb db gb lb=>⟨⟨δ,δ,δ⟩,cU.mk rfl λl Mc sc wc nc=>vg.mk (db.same sc) ω δ δ λrd Md kd dd gd ld=>?_⟩;obtain⟨t,ht,t1,t9⟩:=Xm ga la gb lb gd ld;exact rW.mk (kd _ _ (db.ne nc) wc) ht (hy _ _ _ _ ⟨_,rfl⟩ (((ka.trans kb).trans sc.keep).trans kd) dd rfl ⟨t1,t9⟩)
 intro ys bs M4 k4 d4 w4 pr pz;obtain⟨ta,tb,rfl,ha,hb⟩:∃ta tb:Int,bs=[ta,tb]/\(1<=ta/\ta<=1000000000)/\(1<=tb/\tb<=1000000000):=by
  cases pz with
  |cons a t=>cases t with
   |cons b t=>cases t;exact⟨_,_,rfl,a,b⟩
 rw[pairE pr] at w4;have b4:1+ns.length+3*(List.range (2:Int).toNat).length<=50:=by show 1+ns.length+3*2<=50;omega
 refine vg.mk (d4.le b4) δ δ δ λra Ma ka da ga la=>⟨⟨δ,δ,δ⟩,cU.mk rfl λl Mc sc wc nc=>vg.mk (da.same sc) δ δ δ λrd Md kd dd gd ld=>?_⟩;obtain⟨co,RS,c1,c9⟩:=MF ga la gd ld;refine rW.mk (kd _ _ (da.ne nc) wc) RS ?_;have kMd:cX k M3 Md:=k4.trans ((ka.trans sc.keep).trans kd);have hFd:=kMd _ _ Xn hF;have hDd:Md D=some (.lst ([ta,tb].map V.int)):=kd _ _ (d3.ne hD) (sc _ _ (ka _ _ (d3.ne hD) w4));obtain⟨abg,abh⟩:=Iz (ss:=ss) (m:=m) ω;rw[em];refine Fy.l hFd λq1 N1 e1 h1 _=>?_;rw[abg] at h1;refine we.mk h1 (by rw[b_];omega) λl1 za N2 e2 h2 _ pa oa=>oV.l h2 λt1 N3 e3 h3 _=>⟨.inl ⟨δ,δ⟩,?_⟩;have e13:=(e1.trans e2).trans e3;refine Fy.l (e13 _ _ hFd) λq2 N4 e4 h4 _=>?_;rw[abh] at h4;refine we.mk h4 (by rw[b_];omega) λl2 zb N5 e5 h5 _ pb ob=>oV.l h5 λt2 N6 e6 h6 _=>cU.mk rfl λcr N7 e7 h7 _=>?_;have e47:=((e4.trans e5).trans e6).trans e7;have UI:=e13.trans e47;refine rW.mk (UI _ _ hDd) (a_ (j:=0) rfl) (rW.mk (UI _ _ hDd) (a_ (j:=1) rfl) (cU.mk rfl λtt N8 e8 h8 _=>mS.any (e8 _ _ h7) h8 ς (show 2+3<=10000 by decide) λrr N9 e9 h9=>?_));have Z5:=e8.trans e9;obtain⟨c',dc,lc⟩:=(dd.same (UI.trans Z5)).out;obtain⟨ua,ub,no⟩:=Iy (pm.nodup_iff.mpr nd) pa pb oa ob;have la:za.length=m:=by rw[pa.length_eq,b_];omega
 have lb:zb.length=m:=by rw[pb.length_eq,b_,cK];omega
 refine q rr ⟨za,zb,ta,tb,co⟩ c' N9 (λy o n e=>(UI.trans Z5) _ _ (kMd _ _ n (kM _ _ n (λz=>?_) (kH _ _ n e)))) dc ω ⟨t1,t2,h9,(e47.trans Z5) _ _ h3,(e7.trans Z5) _ _ h6⟩ ⟨⟨by show 1<=za.length;omega,by show za.length<=4;omega,λn hn=>Kl n (gH (pa.mem_iff.mp hn))⟩,⟨by show 1<=zb.length;omega,by show zb.length<=4;omega,λn hn=>Kl n (vI (gH (pb.mem_iff.mp hn)))⟩,ha.1,ha.2,hb.1,hb.2,c1,c9⟩ ⟨ua,ub,no,la.trans lb.symm⟩;rw[z] at e;rw[k1 _ _ Xn e] at n2;cases n2
def yr (h:m∈a):(exc a m y).length<=a.length:=by unfold exc;rw[aA,aE];have h2:=(List.length_filter_lt_length_iff_exists (p:=λn=>!decide (n=m)) (l:=a)).mpr ⟨m,h,ς⟩;omega
def qT (o:Fv a) (hm:m∈a) (hy:okN y) (pm:c.Perm (exc a m y)):Fv c:=by
 refine⟨?_,?_,λn hn=>?_⟩
 .rw[pm.length_eq];unfold exc;rw[aA,aE];omega
 .rw[pm.length_eq];exact aB (yr hm) o.l4
 .rcases qR.mp (pm.mem_iff.mp hn) with z|z
  .exact o.ok n z.1
  .rw[z];exact hy
def Av {A:Aab}(h0:0<=i) (h1:i<((A.map V.str).length:Int)):∃m∈A,xK (A.map V.str) i=some (.str m):=by obtain⟨h,e⟩:=Ic h0 h1;refine⟨A[i.toNat]'(by rwa[ah] at h),dD _,?_⟩;rw[e,Et]
def Oo {K:Φ}{a D:aq}{H:Hp}{Q:VK}{A:Aab}{m:Str}{v0:Option V}(hD:H D=none) (h:H a=some (.tup (A.map V.str))) (l:A.length<=1000) (q:∀M,bc H M->M D=some (.lst ((A.filter λn=>!decide (n=m)).map V.str))->Q (.ref D) M):
  tj (Ot K a) (d_ 0) (nG (oH (Mz not) (vC 0) (vC 1))) (vC 0) [v0,some (.str m)] H Q D:=by
 refine Kn (λ_ v b=>v=.str b) (λn:Str=>if(λn=>!decide (n=m)) n=true then some n else none) (λU=>∃v,U=[v,some (.str m)]) hD (OY h) kI (by rw[ah];exact l) ⟨_,rfl⟩ (λ_ _ _ _ _ e=>e) ?_ λys M s w pr=>q M s (by rw[w,pairE pr,fmF]);rintro U M x n N Y ⟨v,rfl⟩ s rfl _ hn hy;by_cases e:n=m
 .rw[aI (by simp[e])] at hn;exact itN (by simp[e]) (hn rfl _ _ ⟨_,rfl⟩ (bc.refl _))
 .rw[aJ (by simp[e])] at hy;exact itY (by simp[e]) (hy _ _ _ _ rfl ⟨_,rfl⟩ (bc.refl _) rfl)
abbrev sLx:Stmt:=top 72
def abi:List (Str×NameKind):=[(".0",.local),("name",.local),("one",.free)]
def abj:List (Str×NameKind):=[(".0",.local),("name",.local),("other",.free)]
def abk:(["name","one"]:Aab).Nodup:=η
def abl:(["name","other"]:Aab).Nodup:=η
def RT (F:gX K "_law_exchanged" "_law_exchanged" sLx f fd) (T:Txt mg) (DP:Df P w K mg base 1 "_law_pick" ["deck","many"] Gj):cG P w K mg base fK 2 f fd ["deck","piece"] LxC:=by
 have sc:bx ["deck","piece","one","other","first","second","times"] ["deck","piece"] (aP sLx):={};exists sc;refine⟨_,az (kR (i:=2) sc.nd rfl (Or.inr rfl) (bW eV (bW eV (pC 1) aH) (pD DP hr (ae (pC 0) (ae (bj mw rfl T.len bY (ae (bW eV (pC 1) aH) aj)) aj))))) (az (kR (i:=3) sc.nd rfl (Or.inr rfl) (bW eV (bW eV (pC 1) aH) (pD DP hr (ae (pC 0) (ae (bj mw rfl T.len bY (ae (bW eV (pC 1) aH) aj)) aj))))) (az (iQ (i:=4) sc.nd (dO tH rfl T.tuple bO (ae (bj O0 rfl T.sorted ik (ae (bQ Dx (gm (N:=["name","one"]) (g:=d_ 0) (tc:=nG (oH (Mz not) (vC 0) (vC 1))) (te:=vC 0) rfl (Cj K (bW eV (pC 1) aH)) (cY.one (v:="name") (fr:="one") (j:=2) (nm:=abi) rfl rfl rfl rfl) (λ_ _ _=>aM (i:=0) abk) (λ_ _ _=>gK (fG oN (pC 0) (pC 1) (cO _))) (λ_ _ _=>pC 0)) (oU (ae (pC 3) aj))) aj)) aj))) (az (iQ (i:=5) sc.nd (dO tH rfl T.tuple bO (ae (bj O0 rfl T.sorted ik (ae (bQ Dx (gm (N:=["name","other"]) (g:=d_ 0) (tc:=nG (oH (Mz not) (vC 0) (vC 1))) (te:=vC 0) rfl (Cj K (bW eV (pC 1) aH)) (cY.one (v:="name") (fr:="other") (j:=3) (nm:=abj) rfl rfl rfl rfl) (λ_ _ _=>aM (i:=0) abl) (λ_ _ _=>gK (fG oN (pC 0) (pC 1) (cO _))) (λ_ _ _=>pC 0)) (oU (ae (pC 2) aj))) aj)) aj))) (az (gI (fG oQ (pD DP hr (ae (pC 0) (ae aH aj))) aH (cO _)) (aO (bK (bQ Dx (jx (ae (pC 4) (ae (pC 5) aj))) (gx qz (pC 1) (tI aH) jv)))) cj) (az (iQ (i:=6) sc.nd (dO tH rfl T.tuple bO (ae (gm (N:=["k","deck"]) (g:=d_ 0) (tc:=lF) (te:=oH (rK λi j=>.int (i+j)) (tC (.int 1)) (o_ Gj E0 (dF (vC 1) (dF (tC (.int 400)) gk)))) rfl (UN rfl T.range (ae aH aj)) (cY.one (v:="k") (fr:="deck") (j:=0) (nm:=Xk) rfl rfl rfl rfl) (λ_ _ _=>aM (i:=0) Xl) (λ_ _ _=>eD) (λ_ _ _=>bQ (oK fF) aH (pD DP hr (ae (pC 1) (ae aH aj))))) aj))) (aO (bK (bQ Dx (bQ Dx (jx (ae (pC 4) (ae (pC 5) aj))) (pC 6)) (jx (ae (bW kl (oU (ae (bW eV (pC 1) aH) (ae (bQ (oK fF) aH (pD DP hr (ae (pC 0) (ae aH aj)))) aj))) (pD DP hr (ae (pC 0) (ae aH aj)))) aj)))))))))),?_⟩;obtain @⟨k,r,c,p,d,hc,hp,op,cp,q⟩:=h;obtain⟨a,b,e1,e2,e3⟩:=hp;have a1:=op.a.l1;have a4:=op.a.l4;have b1:=op.b.l1;have b4:=op.b.l4;have d0:=nJ.of d (ji hc δ);refine hE.mk e1 (a_ (j:=0) rfl) (hE.mk e1 (a_ (j:=0) rfl) (kj.t e2 (vg.mk d0 δ (by rw[ah];omega) (by rw[ah];omega) λi1 M1 k1 d1 g1 l1=>?_)));obtain⟨m,hm,am⟩:=Av g1 l1;have t1:=d0.tk k1;refine hE.mk (t1 _ _ e2) am (hE.mk (t1 _ _ e1) (a_ (j:=1) rfl) (hE.mk (t1 _ _ e1) (a_ (j:=1) rfl) (kj.t (t1 _ _ e3) (vg.mk d1 δ (by rw[ah];omega) (by rw[ah];omega) λi2 M2 k2 d2 g2 l2=>?_))));obtain⟨y,hy,ay⟩:=Av g2 l2;have t2:Tk H M2:=λb xs e=>d1.tk k2 _ _ (t1 _ _ e);refine hE.mk (t2 _ _ e3) ay (hE.mk (t2 _ _ e1) (a_ (j:=0) rfl) (An.mk (t2 _ _ e2) λD1 n1=>Oo n1 (t2 _ _ e2) (aB a4 δ) λN1 s1 w1=>cU.mk rfl λx1 N2 s2 w2 _=>mS.l (s2 _ _ w1) w2 ?_ λL1 N3 s3 w3 _=>?_))
 .rw[ah];exact aB (Nat.add_le_add_right (aB (iD _ _) a4) 1) δ
 rw[show(p.a.filter λn=>!decide (n=m)).map V.str++ [V.str y]=(exc p.a m y).map V.str by unfold exc;rw[bC];rfl] at w3;refine we.mk w3 (aB (yr hm) (aB a4 δ)) λl1 C1 N4 s4 w4 _ UO Xo=>oV.l w4 λc1 N5 s5 w5 _=>?_;have LL:=(((s1.trans s2).trans s3).trans s4).trans s5;have t5:Tk H N5:=λb xs e=>LL _ _ (t2 _ _ e);refine hE.mk (t5 _ _ e1) (a_ (j:=1) rfl) (An.mk (t5 _ _ e3) λD2 n2=>Oo n2 (t5 _ _ e3) (aB b4 δ) λN6 s6 w6=>cU.mk rfl λx2 N7 s7 w7 _=>mS.l (s7 _ _ w6) w7 ?_ λL2 N8 s8 w8 _=>?_)
 .rw[ah];exact aB (Nat.add_le_add_right (aB (iD _ _) b4) 1) δ
 rw[show(p.b.filter λn=>!decide (n=y)).map V.str++ [V.str m]=(exc p.b y m).map V.str by unfold exc;rw[bC];rfl] at w8;refine we.mk w8 (aB (yr hy) (aB b4 δ)) λl2 C2 N9 s9 w9 _ UP so2=>oV.l w9 λc2 G jW wK _=>?_;have s6G:=(((s6.trans s7).trans s8).trans s9).trans jW;have sG:=LL.trans s6G;have tG:Tk H G:=λb xs e=>sG _ _ (t2 _ _ e);have kG:cX k H G:=(k1.trans k2).trans sG.keep;have dG:=d2.same sG;have UQ:=op.a.ok m hm;have UR:=op.b.ok y hy;have cr1:=qT op.a hm UR UO;have cr2:=qT op.b hy UQ UP;have X1:vZ p.a m y C1:=⟨UO,jq Xo (UO.nodup_iff.mpr (rV cp.a.nodup λz=>cp.no _ z hy))⟩;have X2:vZ p.b y m C2:=⟨UP,jq so2 (UP.nodup_iff.mpr (rV cp.b.nodup λz=>cp.no _ hm z))⟩;refine vg.mk dG δ δ δ λr3 G3 k3 d3 g3 l3=>Mv (λ_=>?_) λ_=>?_
 .have t3:=dG.tk k3;refine cU.mk rfl λu1 J1 j1 x1 _=>Fy.t (j1 _ _ (t3 _ _ (tG _ _ e1))) (show ¬(gF 5 0 (some 2)=0/\gF 5 5 none=5) by decide+kernel) λu2 J2 j2 x2 _=>mS.any (j2 _ _ x1) x2 (show[V.int p.t,V.int p.o,V.int p.c]≠[] by simp) (show 2+3<=10000 by decide) λt J3 j3 x3=>?_;have j:=(j1.trans j2).trans j3;obtain⟨c',dc,lc⟩:=(d3.same j).out;exact q t ⟨C1,C2,p.t,p.o,p.c⟩ m y c' J3 ((kG.trans k3).trans j.keep) dc ω ⟨c1,c2,x3,j _ _ (t3 _ _ (s6G _ _ w5)),j _ _ (t3 _ _ wK)⟩ ⟨cr1,cr2,op.t1,op.t9,op.o1,op.o9,op.c1,op.c9⟩ ⟨hm,hy,X1,X2⟩
 .have t3:=dG.tk k3;refine OV.mk δ δ λD hD=>lcN (m:=1) (λ_ v t=>v=V.int t) (λ(_:Nat) t=>1<=t/\t<=1000000000) (λU=>∃v,U=[v,some (.ref k)]) hD d3 Xj kI δ ⟨_,rfl⟩ (λ_ _ _ _ _ e=>e) ?_ ?_
  .rintro U M x a i Y ⟨v,rfl⟩ kx dx hi rfl _ hy;have hi:i<2:=hi;exact vg.mk dx ω δ δ λra Ma ka da ga la=>hy _ _ _ _ ⟨_,rfl⟩ ka da rfl ⟨ω,ω⟩
  intro ys bs M4 k4 d4 w4 pr pz;obtain⟨ta,tb,rfl,ha,hb⟩:∃ta tb:Int,bs=[ta,tb]/\(1<=ta/\ta<=1000000000)/\(1<=tb/\tb<=1000000000):=by
   cases pz with
   |cons a t=>cases t with
    |cons b t=>cases t;exact⟨_,_,rfl,a,b⟩
  rw[pairE pr] at w4;have t4:Tk H M4:=λb xs e=>d3.tk k4 _ _ (t3 _ _ (tG _ _ e));refine oV.l w4 λtt J0 j0 x0 _=>cU.mk rfl λu1 J1 j1 x1 _=>mS.any x1 (j1 _ _ x0) ς (show 2+2<=10000 by decide) λu2 J2 j2 x2=>?_;have Z6:=(j0.trans j1).trans j2;have d5:=d4.same Z6;refine hE.mk (Z6 _ _ (t4 _ _ e1)) (a_ (j:=4) rfl) (vg.mk d5 δ δ δ λra Ma ka da ga la=>cU.mk rfl λl Mb sb wb nb=>vg.mk (da.same sb) δ δ δ λrc Mc kc dc gc lc=>?_);obtain⟨co,RS,c1',c9'⟩:∃t:Int,xK [V.int p.c,V.int (1+ra)] rc=some (.int t)/\1<=t/\t<=1000000000:=by
   have:rc=0\/rc=1:=ω;rcases this with rfl|rfl
   .exact⟨_,a_ (j:=0) rfl,op.c1,op.c9⟩
   .exact⟨_,a_ (j:=1) rfl,ω,ω⟩
  have kc5:cX k J2 Mc:=(ka.trans sb.keep).trans kc;have t5c:=d5.tk kc5;refine rW.mk (kc _ _ (da.ne nb) wb) RS (cU.mk rfl λu3 J3 j3 x3 _=>mS.any (j3 _ _ (t5c _ _ x2)) x3 ς (by show 2+2+1<=10000;decide) λt J4 j4 x4=>?_);have j34:=j3.trans j4;obtain⟨c',dz,lz⟩:=(dc.same j34).out;have tE:Tk G J4:=λb xs e=>j34 _ _ (t5c _ _ (Z6 _ _ (d3.tk k4 _ _ (t3 _ _ e))));exact q t ⟨C1,C2,ta,tb,co⟩ m y c' J4 ((((kG.trans k3).trans k4).trans (Z6.keep.trans kc5)).trans j34.keep) dz (by simp at lz;omega) ⟨c1,c2,x4,tE _ _ (s6G _ _ w5),tE _ _ wK⟩ ⟨cr1,cr2,ha.1,ha.2,hb.1,hb.2,c1',c9'⟩ ⟨hm,hy,X1,X2⟩
inductive RgI (H:Hp) (Q:VK):Aac->Prop
 |mk {k:aq} {c:Int} {j:Nat} (d:dE H k c) (hc:c<=20000) (h1:1<=j) (h4:j<=4) (q:∀(p:aq) (ss:Aab) (c':Int) (H':Hp),cX k H H'->dE H' k c'->c'<=c+8->p≠k->H' p=some (.tup (ss.map V.str))->ss.length=2*j->(∀s∈ss,Mq s)->Q (.ref p) H'):RgI H Q [.ref k,.int (2*j)]
def RgC:Sp:=λvs H Q _=>RgI H Q vs
inductive Z7 (H:Hp) (Q:VK):Aac->Prop
 |mk {cell tn:Int} (h:0<=tn) (q:∀p H',H p=none->bc H H'->dE H' p tn->Q (.ref p) H'):Z7 H Q [.int cell,.int tn]
def Z8:Sp:=λvs H Q _=>Z7 H Q vs
def wt4 (a0:0<=a) (a1:a<5) (b0:0<=b) (b1:b<40) (c0:0<=c) (c1:c<1000000) (g:0<=r) (l:r<4):∃t:Int,xK [V.int (1+a),V.int (60+b),V.int (1+c),V.int ((10:Int)^(6:Int).toNat)] r=some (.int t)/\1<=t/\t<=1000000:=by
 have:r=0\/r=1\/r=2\/r=3:=ω;rcases this with rfl|rfl|rfl|rfl
 .exact⟨_,a_ (j:=0) rfl,ω,ω⟩
 .exact⟨_,a_ (j:=1) rfl,ω,ω⟩
 .exact⟨_,a_ (j:=2) rfl,ω,ω⟩
 .exact⟨_,a_ (j:=3) rfl,δ,δ⟩
def IA {ss:Aab}(i:Nat) (h:∀s∈ss,Mq s) (hx:Mq x):∀s∈ss.take i++x::ss.drop i,Mq s:=λs hs=>by
 rcases aX.mp hs with z|z
 .exact h s (gH z)
 .rcases aU.mp z with z|z
  .exact z▸hx
  .exact h s (vI z)
def RU (F:gX K "_law_weight" "_law_weight" sWt f fd) (DP:Df P w K mg base 1 "_law_pick" ["deck","many"] Gj):cG P w K mg base fK 2 f fd ["deck"] WtC:=by exists aa3;refine⟨_,aO (bK (bW kl (oU (ae (bQ (oK fF) aH (pD DP hr (ae (pC 0) (ae aH aj)))) (ae (bQ (oK fF) aH (pD DP hr (ae (pC 0) (ae aH aj)))) (ae (bQ (oK fF) aH (pD DP hr (ae (pC 0) (ae (bQ (yX me) aH aH) aj)))) (ae (bQ (yX me) aH aH) aj))))) (pD DP hr (ae (pC 0) (ae aH aj))) (λ_ _=>rfl))),?_⟩;obtain⟨d,hc,q⟩:=h;refine vg.mk (nJ.of d hc) δ δ δ λr1 H1 k1 d1 g1 l1=>vg.mk d1 δ δ δ λr2 H2 k2 d2 g2 l2=>⟨⟨δ,δ,δ⟩,vg.mk d2 δ δ δ λr3 H3 k3 d3 g3 l3=>⟨⟨δ,δ,δ⟩,cU.mk rfl λp M s hp n=>vg.mk (d3.same s) δ δ δ λr4 H4 k4 d4 g4 l4=>?_⟩⟩;obtain⟨t,ht,t1,t6⟩:=wt4 g1 l1 g2 l2 g3 l3 g4 l4;obtain⟨c',dc,lc⟩:=d4.out;exact rW.mk (k4 _ _ (d3.ne n) hp) ht (q t c' H4 (((k1.trans k2).trans k3).trans (s.keep.trans k4)) dc lc t1 t6)
def FA (F:gX K "_law_names" "_law_names" Ce f fd) (T:Txt mg) (DP:Df P w K mg base 1 "_law_pick" ["deck","many"] Gj):cG P w K mg base fK 2 f fd ["deck","many"] Iu:=by
 exists Mp;refine WV ⟨_,_,_,_,rfl,(by
    refine kR (i:=2) (te:=Fw (λ_ H Q=>Q (yi.map V.str) H)) ?_ ?_ ?_ ?_ ?_ ?_
    .exact Mp.nd
    .rfl
    .exact Or.inl rfl
    .refine oU ?_;refine Ah ?_;repeat (first|exact .nil|refine .cons ⟨_,_,_,rfl,rfl⟩ ?_)
    .rfl
    .exact .inl rfl)
   ,(iQ (i:=3) Mp.nd (oU aj))
   ,(gy bz rfl (UN rfl T.range (ae (pC 1) aj)) (aM (i:=4) Mp.nd) (aO (eR (pV cI cJ pf (pC 3) (ae (pV kX kY RP (pC 2) (ae (pD DP hr (ae (pC 0) (ae (bj mw rfl T.len bY (ae (pC 2) aj)) aj))) aj)) aj)))))
   ,(bK (pC 3))⟩ ?_;obtain @⟨k,c,n,d,hc,m0,m1,q⟩:=h;refine cU.mk rfl λsm M1 s1 w1 n1=>cU.mk rfl λfo M2 s2 w2 n2=>OV.mk m0 ω ?_;have d0:=nJ.of d hc;have nks:=d0.ne n1;have US:=(d0.same s1).ne n2;have nfs:fo≠sm:=λz=>by rw[z,w1] at n2;cases n2
 have oW:=s1.trans s2;refine Dy (λi U M=>(∃v,U=[some (.ref k),some (.int n),some (.ref sm),some (.ref fo),v])/\(∀y o,y≠k->H y=some o->M y=some o)/\nJ k c i M/\∃ns ms,M sm=some (.lst (ms.map V.str))/\ms.length+i=12/\M fo=some (.lst (ns.map V.str))/\ns.length=i/\(ns++ms).Perm yi) ⟨⟨_,rfl⟩,oW.keep,d0.same oW,[],yi,s2 _ _ w1,rfl,w2,rfl,.refl _⟩ ?_ ?_
 .rintro i U M D' hi ⟨⟨v,rfl⟩,kp,dM,ns,ms,hS,lm,hF,ln,pm⟩ ⟨nx,_⟩;have lS:((ms.map V.str).length:Int)=12-i:=by rw[ah];omega
  refine⟨IsL.mk hF,IsL.mk hS,kj.l hS (vg.mk dM ω ω ω λr M3 k3 d3 g3 l3=>?_)⟩;have vY:r.toNat<ms.length:=ω;refine RO.mk (k3 _ _ nks hS) ω g3 (by rw[aR,ag vY];rfl) λM4 k4 w4=>tF.mk (k4 _ _ nfs (k3 _ _ US hF)) (by rw[ah];omega) λM5 k5 w5=>nx _ _ ⟨⟨_,rfl⟩,λy o h e=>k5 _ _ (λz=>by rw[z,s1.pj n2] at e;cases e) (k4 _ _ (λz=>by rw[z,n1] at e;cases e) (k3 _ _ h (kp _ _ h e))),d3.keep λo e=>k5 _ _ US.symm (k4 _ _ nks.symm e),ns++ [ms[r.toNat]],ms.eraseIdx r.toNat,by rw[k5 _ _ nfs.symm w4,xa],by rw[List.length_eraseIdx_of_lt vY];omega,by rw[w5,bC];rfl,by rw[aA,aE,ln],by rw[qa];exact((uX vY).append_left ns).trans pm⟩
 .rintro U M ⟨⟨v,rfl⟩,kp,dM,ns,ms,hS,lm,hF,ln,pm⟩;obtain⟨c',dc,lc⟩:=dM.out;exact q fo ns c' M kp dc ω US (s1.pj n2) hF ω (λx hx=>Fs x (pm.mem_iff.mp (bh _ hx))) (fg.mp (pm.nodup_iff.mpr η)).1
def RV (F:gX K "_law_rig" "_law_rig" sRg f fd) (T:Txt mg) (DP:Df P w K mg base 1 "_law_pick" ["deck","many"] Gj):cG P w K mg base fK 2 f fd ["deck","many"] RgC:=by
 exists Ie;refine⟨_,az (iQ (i:=2) Ie.nd (oU aj)) (az (gy bz rfl (UN rfl T.range (ae (bQ (yX tY) (pC 1) aH) aj)) (aM (i:=3) Ie.nd) (az (eR (pV qm qo Iq (pC 2) (ae (pD DP hr (ae (pC 0) (ae (bQ (oK fF) (bj mw rfl T.len bY (ae (pC 2) aj)) aH) aj))) (ae f_ aj)))) (aO (eR (pV qm qo Iq (pC 2) (ae (pD DP hr (ae (pC 0) (ae (bQ (oK fF) (bj mw rfl T.len bY (ae (pC 2) aj)) aH) aj))) (ae f_ aj))))))) (aO (bK (dO tH rfl T.tuple bO (ae (pC 2) aj))))),?_⟩;obtain @⟨k,c,j,d,hc,j1,j4,q⟩:=h;refine cU.mk rfl λfo M1 s1 w1 n1=>⟨⟨δ,δ⟩,?_⟩;have ej:2*(j:Int)/2=j:=ω;have d0:=nJ.of d (ji hc δ);have US:=d0.ne n1;refine OV.mk ω ω (Dy (λi U M=>(∃v,U=[some (.ref k),some (.int (2*j)),some (.ref fo),v])/\(∀y o,y≠k->H y=some o->M y=some o)/\nJ k c (2*i) M/\∃ss,M fo=some (.lst (ss.map V.str))/\ss.length=2*i/\∀n∈ss,Mq n) ⟨⟨_,rfl⟩,s1.keep,d0.same s1,[],w1,rfl,λ_ h=>nomatch h⟩ ?_ ?_)
 .rintro i U M D' hi ⟨⟨v,rfl⟩,kp,dM,ss,hF,ls,oF⟩ ⟨nx,_⟩;have key:∀{M:Hp} {ss:Aab} {n:Nat} {x:Str} {Q:VK},nJ k c n M->n<=100->M fo=some (.lst (ss.map V.str))->ss.length<=10->(∀M' i,(∀y o,y≠k->y≠fo->M y=some o->M' y=some o)->nJ k c (n+1) M'->M' fo=some (.lst ((ss.take i++x::ss.drop i).map V.str))->(ss.take i++x::ss.drop i).length=ss.length+1->Q .e_ M')->vg M (λr H1=>Xh (.ref fo) [r,.str x] H1 Q) [.ref k,.int ((ss.map V.str).length+1)]:=λdM hn hF l10 q=>by refine vg.mk dM ω ω (by rw[ah];omega) λr M3 k3 d3 g3 l3=>ME.mk (k3 _ _ US hF) (by rw[ah];omega) g3 ω λM4 k4 w4=>q M4 r.toNat (λy o h1 h2 e=>k4 _ _ h2 (k3 _ _ h1 e)) (d3.keep λo e=>k4 _ _ US.symm e) (by rw[w4,uY]) ?_;rw[ah] at l3;rw[aA,bE,b_,cK];omega
  refine⟨IsL.mk hF,kj.l hF (key dM ω hF ω λM3 i3 k3 d3 h3 l3=>⟨IsL.mk h3,kj.l h3 (key d3 ω h3 ω λM4 i4 k4 d4 h4 l4=>nx _ _ ⟨⟨_,rfl⟩,λy o h e=>?_,d4,_,h4,ω,IA i4 (IA i3 oF Rx) Ry⟩)⟩)⟩;have nf:y≠fo:=λz=>by rw[z,n1] at e;cases e
  exact k4 _ _ h nf (k3 _ _ h nf (kp _ _ h e))
 .rintro U M ⟨⟨v,rfl⟩,kp,dM,ss,hF,ls,oF⟩;refine oV.l hF λtp M5 s5 w5 n5=>?_;obtain⟨c',dc,lc⟩:=(dM.same s5).out;exact q tp ss c' M5 (λy o n e=>s5 _ _ (kp _ _ n e)) dc ω (dM.ne n5) w5 ω oF
def ite_yes {c:Prop} [Decidable c] {A B:Prop}(h:c) (a:A):if c then A else B:=by rw[aJ h];exact a
def ite_no {c:Prop} [Decidable c] {A B:Prop}(h:¬c) (a:B):if c then A else B:=by rw[aI h];exact a
def oo {x y:Int}(hx:x.natAbs<2^a) (hy:y.natAbs<2^b):(x*y).natAbs<2^(a+b):=by rw[vJ,Nat.pow_add];exact Nat.mul_lt_mul'' hx hy
def Xq (a b:Aab):PyData:=.tuple [.tuple (fE a),.tuple (fE b)]
def FC (t a b:Nat):t≠t+a+b+1/\a≠t+a+b+1/\b≠t+a+b+1:=ω
def Aw {H}{A}(h1:H t=some (.tup [.ref a,.ref b])) (h2:H a=some (.tup (A.map V.str))) (h3:H b=some (.tup (B.map V.str))):Tells H (t+a+b+1) (Xq A B) (.ref t):=eP.mpr ⟨t,_,rfl,(FC t a b).1,h1,cy.mpr ⟨_,_,rfl,eP.mpr ⟨a,_,rfl,(FC t a b).2.1,h2,gR A⟩,cy.mpr ⟨_,_,rfl,eP.mpr ⟨b,_,rfl,(FC t a b).2.2,h3,gR B⟩,fL.mpr rfl⟩⟩⟩
def qU (hc:∀n∈c,okN n) (hl:c.length<=12):Bd 13 1 (.tuple (fE c)):=by refine(Bd.tuple (n:=1) (p:=0) (m:=12) (λx hx=>?_) (by unfold fE;rw[ah];exact hl)).mono δ δ;obtain⟨n,hn,rfl⟩:=br.mp hx;exact rP (hc n hn).1 (hc n hn).2.1
def O1 (ha:∀n∈a,okN n) (hb:∀n∈b,okN n) (la:a.length<=12) (lb:b.length<=12):Bd 30 2 (Xq a b):=by
 refine(Bd.tuple (n:=13) (p:=1) (m:=2) (ds:=[.tuple (fE a),.tuple (fE b)]) (λx hx=>?_) (ao 2)).mono δ δ;simp only[aU,bF,eE] at hx;rcases hx with rfl|rfl
 .exact qU ha la
 .exact qU hb lb
def lO:∀(a b:Aab),PyData.eqv (.tuple (fE a)) (.tuple (fE b))=decide (a=b)
 | [],[]=>by simp[fE,PyData.eqv,PyData.eqvAll]
 | [],_::_=>by simp[fE,PyData.eqv,PyData.eqvAll]
 |_::_,[]=>by simp[fE,PyData.eqv,PyData.eqvAll]
 |x::a,y::b=>by
  have ih:=lO a b;simp only[fE,PyData.eqv,PyData.eqvAll,bG] at ih⊢;rw[ih];by_cases h1:x=y
  .by_cases h2:a=b<;>simp[h1,h2]
  .simp[h1]
def RW:PyData.eqv (Xq a b) (Xq c d)=decide (a=c/\b=d):=by have h1:=lO a c;have h2:=lO b d;simp only[Xq,PyData.eqv,PyData.eqvAll] at h1 h2⊢;rw[h1,h2];by_cases e1:a=c<;>by_cases e2:b=d<;>simp[e1,e2]
abbrev RX:=Str×Str×Int×Int
def yt (H:Hp) (q:aq) (r:RX):Prop:=∃l,H q=some (.tup [.str r.1,.str r.2.1,.ref l])/\H l=some (.tup [.int r.2.2.1,.int r.2.2.2])
def yt.same {H}(h:yt H q r) (s:bc H H'):yt H' q r:=by obtain⟨l,h1,h2⟩:=h;exact⟨l,s _ _ h1,s _ _ h2⟩
def Xr (H:Hp) (v:V):Option RX->Prop
 |none=>v=.e_
 |some r=>∃t,v=.ref t/\yt H t r
def Xs (P:aQ) (w:bg) (K:Φ) (mg:Aae) (base:Heap) (k:Nat) (x:Str) (ps:Aab) (sp:Sp):Prop:=∃f fd,cG P w K mg base (yd P w) k f fd ps sp/\Binds K fd ps []/\keepIn K (.ref f)=true/\mg x=some (.ref f)
def RY (D:Xs X.prog X.w X.K X.mg X.base k x ps sp) (hr:eS k X.A) (hL:Ff X W) (ha:PA X (e::es) t) (hg:Gl X x:=by rfl) (s_:(x==("__debug__":Str))=false:=by decide) (he:starEach (e::es) X.env=(false,eval e X.env)::starEach es X.env:=by rfl) (sC:(backTo pos (starEach es X.env)).any (·.1)=false:=by rfl):PE X (.Call (.Name x p) (e::es) [] pos) (B3 sp [] W t):=by obtain⟨f,fd,F,b,kp,m⟩:=D;exact HJ F hr hg m kp b .nil hL ha s_ he sC
abbrev sFl:Stmt:=top 16
abbrev sEx:Stmt:=top 24
abbrev sXp:Stmt:=top 25
abbrev sTr:Stmt:=top 26
inductive Xt (H:Hp) (Q:VK):Aac->Prop
 |mk {t b:Int} (h:0<b) (l:b.natAbs<BB) (m:t.natAbs<BB) (q:∀p M,bc H M->M p=some (.tup [.int (eZ t b),.int (eN t b)])->H p=none->Q (.ref p) M):Xt H Q [.int t,.int b]
def UT:Sp:=λvs H Q _=>Xt H Q vs
def UT.old (vs:Aac) (H:Hp) (Q:VK) (E:XK) (h:UT vs H Q E):WX vs H Q E:=by obtain⟨h,l,m,q⟩:=h;exact⟨_,_,rfl,h,l,m,λp hp=>q p _ (bZ hp _) ba hp⟩
inductive Z9 (H:Hp) (Q:VK):Aac->Prop
 |mk {r:aq} {p:oi} (h:oS H r p) (o:gW p) (q:∀z M,bc H M->M z=some (.tup [.int (eZ (p.o-p.t) p.c),.int (eN (p.o-p.t) p.c)])->Q (.ref z) M):Z9 H Q [.ref r]
def MgC:Sp:=λvs H Q _=>Z9 H Q vs
inductive FlI (H:Hp) (Q:VK):Aac->Prop
 |mk {a b:aq} {t1 b1 t2 b2:Int} (h1:H a=some (.tup [.int t1,.int b1])) (h2:H b=some (.tup [.int t2,.int b2])) (p1:0<b1) (p2:0<b2) (l1:b1<2^60) (l2:b2<2^60) (m1:t1.natAbs<2^60) (m2:t2.natAbs<2^60) (q:∀p M,bc H M->M p=some (.tup [.int (eZ (t1*b2-t2*b1) (b1*b2)),.int (eN (t1*b2-t2*b1) (b1*b2))])->Q (.ref p) M):FlI H Q [.ref a,.ref b]
def FlC:Sp:=λvs H Q _=>FlI H Q vs
inductive Z_ (H:Hp) (Q:VK):Aac->Prop
 |mk {a:aq} {A:Aab} {m y:Str} (h:H a=some (.tup (A.map V.str))) (l:A.length<=12) (q:∀t C M,bc H M->M t=some (.tup (C.map V.str))->C.Perm (exc A m y)->PyProof.Rows.sortedS C=true->Q (.ref t) M):Z_ H Q [.ref a,.str m,.str y]
def ExC:Sp:=λvs H Q _=>Z_ H Q vs
structure RZ (H:Hp) (r1 r2:aq) (p q:oi):Prop where
 h1:oS H r1 p
 h2:oS H r2 q
 o1:gW p
 o2:gW q
 c:jd p
inductive XpI (CN:aq) (H:Hp) (Q:VK) (E:XK):Aac->Prop
 |mk {r1 r2:aq} {p q:oi} (h:RZ H r1 r2 p q) (no:(∀m y,¬Xp p q m y)->∀M,bc H M->E (.ref CN) none M) (yes:∀m y t M,Xp p q m y->bc H M->M t=some (.tup [.str m,.str y])->Q (.ref t) M):XpI CN H Q E [.ref r1,.ref r2]
def XpC (CN:aq):Sp:=λvs H Q E=>XpI CN H Q E vs
inductive TrI (CN:aq) (H:Hp) (Q:VK) (E:XK):Aac->Prop
 |mk {r1 r2:aq} {p q:oi} (h:RZ H r1 r2 p q) (no:(∀m y,¬Xp p q m y)->∀M,bc H M->E (.ref CN) none M) (yes:∀m y t M,Xp p q m y->bc H M->yt M t (u9 p q m y)->Q (.ref t) M):TrI CN H Q E [.ref r1,.ref r2]
def TrC (CN:aq):Sp:=λvs H Q E=>TrI CN H Q E vs
def IB (sp:Sp) (W:ai->St->Hp->Prop) (t:TA):TE:=λU H Q=>t U H λvs H1=>sp vs H1 Q λcls _ H'=>W cls U H'
def pX (D:Xs X.prog X.w X.K X.mg X.base k x ps sp) (hr:eS k X.A) (hL:Ff X W) (ha:PA X (e::es) t) (hg:Gl X x:=by rfl) (s_:(x==("__debug__":Str))=false:=by decide) (he:starEach (e::es) X.env=(false,eval e X.env)::starEach es X.env:=by rfl) (sC:(backTo pos (starEach es X.env)).any (·.1)=false:=by rfl):PE X (.Call (.Name x p) (e::es) [] pos) (IB sp W t):=(RY D hr hL ha hg s_ he sC).wk λU H Q q=>by unfold B3;simp only[dU];exact q
def R0 (F:gX K "margin" "margin" sMg f fd) (DF:Df P w K mg base 1 "fraction" ["top","bottom"] UT):cG P w K mg base fK 2 f fd ["piece"] MgC:=by exists Fu;refine⟨_,az (iP (pC 0) (rY 5 (gY (aM (i:=1) Fu.nd) (gY (aM (i:=2) Fu.nd) (gY (aM (i:=3) Fu.nd) (gY (aM (i:=4) Fu.nd) (gY (aM (i:=5) Fu.nd) rX))))))) (aO (bK (pD DF hr (ae (bQ (oK rH) (pC 4) (pC 3)) (ae (pC 5) aj))))),?_⟩;obtain⟨⟨a,b,h1,_,_⟩,o,q⟩:=h;have i1:=o.c1;have i2:=o.c9;have i3:=o.t1;have i4:=o.t9;have i5:=o.o1;have i6:=o.o9;exact pT.mk h1 rfl (Xt.mk ω (Ag (m8 (m:=2^60) ω δ)) (Ag (m8 (m:=2^60) ω δ)) λp M s w _=>q p M s w)
def R1 (F:gX K "fraction_less" "fraction_less" sFl f fd) (DF:Df P w K mg base 1 "fraction" ["top","bottom"] UT):cG P w K mg base fK 2 f fd ["one","other"] FlC:=by have sc:bx ["one","other"] ["one","other"] (aP sFl):={};exists sc;refine⟨_,aO (bK (pD DF hr (ae (bQ (oK rH) (bQ (yX kS) (bW eV (pC 0) aH) (bW eV (pC 1) aH)) (bQ (yX kS) (bW eV (pC 1) aH) (bW eV (pC 0) aH))) (ae (bQ (yX kS) (bW eV (pC 0) aH) (bW eV (pC 1) aH)) aj)))),?_⟩;obtain @⟨a,b,t1,b1,t2,b2,h1,h2,p1,p2,l1,l2,m1,m2,q⟩:=h;have z:(b1*b2).natAbs<2^120:=oo (a:=60) (b:=60) ω ω;have z1:(t1*b2).natAbs<2^120:=oo (a:=60) (b:=60) ω ω;have z2:(t2*b1).natAbs<2^120:=oo (a:=60) (b:=60) ω ω;have cm:∀{i j:Int},0<j->j<2^60->KY i j:=λa b=>.inr ⟨ω,ω⟩;exact hE.mk h1 (a_ (j:=0) rfl) (hE.mk h2 (a_ (j:=1) rfl) ⟨cm p2 l2,hE.mk h2 (a_ (j:=0) rfl) (hE.mk h1 (a_ (j:=1) rfl) ⟨cm p1 l1,hE.mk h1 (a_ (j:=1) rfl) (hE.mk h2 (a_ (j:=1) rfl) ⟨cm p2 l2,Xt.mk (lW p1 p2) (Ag ω) (Ag ω) λp M s w _=>q p M s w⟩)⟩)⟩)
def abm:List (Str×NameKind):=[(".0",.local),("name",.local),("leaves",.free)]
def abn:(["name","leaves"]:Aab).Nodup:=η
def R3 (F:gX K "exchanged" "exchanged" sEx f fd) (T:Txt mg):cG P w K mg base fK 1 f fd ["crew","leaves","enters"] ExC:=by have sc:bx ["crew","leaves","enters"] ["crew","leaves","enters"] (aP sEx):={};exists sc;refine⟨_,aO (bK (dO tH rfl T.tuple bO (ae (bj O0 rfl T.sorted ik (ae (bQ Dx (gm (N:=["name","leaves"]) (g:=d_ 0) (tc:=nG (oH (Mz not) (vC 0) (vC 1))) (te:=vC 0) rfl (Cj K (pC 0)) (cY.one (v:="name") (fr:="leaves") (j:=1) (nm:=abm) rfl rfl rfl rfl) (λ_ _ _=>aM (i:=0) abn) (λ_ _ _=>gK (fG oN (pC 0) (pC 1) (cO _))) (λ_ _ _=>pC 0)) (oU (ae (pC 2) aj))) aj)) aj))),?_⟩;obtain @⟨a,A,m,y,h,l,q⟩:=h;have lf:(A.filter λn=>!decide (n=m)).length<=12:=aB (iD _ _) l;refine An.mk h λD n=>Oo n h ω λN1 s1 w1=>cU.mk rfl λx1 N2 s2 w2 _=>mS.l (s2 _ _ w1) w2 (by rw[ah,aE];omega) λL1 N3 s3 w3 _=>?_;rw[show(A.filter λn=>!decide (n=m)).map V.str++ [V.str y]=(exc A m y).map V.str by unfold exc;rw[bC];rfl] at w3;exact we.mk w3 (by unfold exc;rw[aA,aE];omega) λl1 C1 N4 s4 w4 _ pm so=>oV.l w4 λc1 N5 s5 w5 _=>q c1 C1 N5 ((((s1.trans s2).trans s3).trans s4).trans s5) w5 pm so
def R4 (F:gX K "exchanged_pair" "exchanged_pair" sXp f fd) (ON:LR K mg "NoTrial" CN) (DX:Df P w K mg base 1 "exchanged" ["crew","leaves","enters"] ExC):cG P w K mg base (yd P w) 2 f fd ["one","other"] (XpC CN):=by
 have sc:bx ["one","other","mine","yours"] ["one","other"] (aP sXp):={};refine F.okX sc (λvs H Q E h=>by cases h;rfl) (λeU A outer s H vs Q E hr h=>?_);refine⟨_,az (PS.Bk (gy bz rfl (Cj K (bW eV (pC 0) aH)) (aM (i:=2) sc.nd) (aO (gy bz rfl (Cj K (bW eV (pC 0) aH)) (aM (i:=3) sc.nd) (aO (gI (fG (oEq hr.units) (gx qz (pC 1) jv (tI aH)) (jx (ae (pD DX hr (ae (bW eV (pC 0) aH) (ae (pC 2) (ae (pC 3) aj)))) (ae (pD DX hr (ae (bW eV (pC 0) aH) (ae (pC 3) (ae (pC 2) aj)))) aj))) (cO _)) (aO (bK (jx (ae (pC 2) (ae (pC 3) aj))))) cj)))))) (aO (HI (W:=λcls _ H'=>E cls none H') Ri rfl ON rfl (ae f_ aj))),?_⟩;obtain @⟨r1,r2,p,q,⟨⟨a,b,e1,e2,e3⟩,⟨c,d,g1,g2,g3⟩,o1,o2,cp⟩,no,yes⟩:=h;have la4:=o1.a.l4;have lb4:=o1.b.l4;refine hE.mk e1 (a_ (j:=0) rfl) (An.mk e2 (Ap (λi U M=>(∃v2 v3,U=[some (.ref r1),some (.ref r2),v2,v3])/\bc H M/\∀m∈p.a.take i,∀y,¬Xp p q m y) ⟨⟨_,_,rfl⟩,bc.refl _,λ_ h=>nomatch h⟩ (λi U M h=>h.2.1 _ _ e2) ?_ ?_))
 .rintro i x U M D' hx ⟨⟨v2,v3,rfl⟩,sm,nm⟩ ⟨nx,rt,_⟩;rw[aR] at hx;obtain⟨m,em,rfl⟩:=cw.mp hx;have mm:=aY em;refine hE.mk (sm _ _ e1) (a_ (j:=1) rfl) (An.mk (sm _ _ e3) (Ap (λj U M=>(∃v3,U=[some (.ref r1),some (.ref r2),some (.str m),v3])/\bc H M/\∀y∈p.b.take j,¬Xp p q m y) ⟨⟨_,rfl⟩,sm,λ_ h=>nomatch h⟩ (λi U M h=>h.2.1 _ _ e3) ?_ ?_))
  .rintro j x U M2 D2 hx ⟨⟨w3,rfl⟩,s2,n2⟩ ⟨Gk,rt2,_⟩;rw[aR] at hx;obtain⟨y,ey,rfl⟩:=cw.mp hx;have my:=aY ey;refine Fy.t (s2 _ _ g1) (show ¬(gF 5 0 none=0/\gF 5 5 (some 2)=5) by decide+kernel) λsl M3 s3 w3 _=>?_;have UU:=s2.trans s3;refine hE.mk (UU _ _ e1) (a_ (j:=0) rfl) (Z_.mk (UU _ _ e2) ω λt1 C1 M4 s4 w4 UO Xo=>?_);have O2:=UU.trans s4;refine hE.mk (O2 _ _ e1) (a_ (j:=1) rfl) (Z_.mk (O2 _ _ e3) ω λt2 C2 M5 s5 w5 UP so2=>cU.mk rfl λt M6 s6 w6 _=>?_);have Ko:=(O2.trans s5).trans s6;have x1:vZ p.a m y C1:=Dv cp.a.nodup (λz=>cp.no _ z my) UO Xo;have x2:vZ p.b y m C2:=Dv cp.b.nodup (cp.no _ mm) UP so2;have k1:=qT o1.a mm (o1.b.ok y my) UO;have k2:=qT o1.b my (o1.a.ok m mm) UP;have l4:∀{c:Aab},Fv c->c.length<=12:=λo=>aB o.l4 δ;refine Km.mk ⟨_,Aw (((s4.trans s5).trans s6) _ _ w3) (Ko _ _ g2) (Ko _ _ g3)⟩ ⟨_,Aw w6 ((s5.trans s6) _ _ w4) (s6 _ _ w5)⟩ ((O1 o2.a.ok o2.b.ok (l4 o2.a) (l4 o2.b)).lay δ) ((O1 k1.ok k2.ok (l4 k1) (l4 k2)).lay δ) ?_;rw[RW];refine Mv (λe=>?_) λe=>?_
   .exact cU.mk rfl λu M7 s7 w7 _=>rt2 _ _ (rt _ _ (yes m y u M7 ⟨mm,my,e.1▸x1,e.2▸x2⟩ (Ko.trans s7) w7))
   .refine Gk _ _ ⟨⟨_,rfl⟩,Ko,λz hz=>?_⟩;rw[bM,ey] at hz;rcases aX.mp hz with hz|hz
    .exact n2 z hz
    .obtain rfl:z=y:=by simpa using hz
     exact λx=>e ⟨x.a.uniq x1,x.b.uniq x2⟩
  .rintro U M2 ⟨⟨w3,rfl⟩,s2,n2⟩;refine nx _ _ ⟨⟨_,_,rfl⟩,s2,λz hz=>?_⟩;rw[ah,bX] at n2;rw[bM,em] at hz;rcases aX.mp hz with hz|hz
   .exact nm z hz
   .obtain rfl:z=m:=by simpa using hz
    exact λy x=>n2 y x.hy x
 .rintro U M ⟨⟨v2,v3,rfl⟩,sm,nm⟩;rw[ah,bX] at nm;exact⟨Bh,no (λm y x=>nm m x.hm y x) M sm⟩
def IC (f:Str->Str->Str) (Q:VK) (H:Hp):Aac->Prop
 | [.str x,.str y]=>Q (.str (f x y)) H
 |_=>False
def MH (f:Str->Str->Str):Aac->Hp->VK->Prop:=λvs H Q=>IC f Q H vs
def Xu (hc:X.calm=true:=by rfl):dR X (.builtin "min") (MH λx y=>if dH y x=true then y else x):=(BY hc).wk λx H Q q=>by
 unfold MH IC at q;split at q
 .exact⟨_,_,rfl,q⟩
 .cases q
def Xv (hc:X.calm=true:=by rfl):dR X (.builtin "max") (MH λx y=>if dH x y=true then y else x):=(BZ hc).wk λx H Q q=>by
 unfold MH IC at q;split at q
 .exact⟨_,_,rfl,q⟩
 .cases q
def MI:bootBuiltins "max"=some (.builtin "max"):=η
inductive TnT (H:Hp) (Q:VK):Aac->Prop
 |mk {r1 r2:aq} {p q:oi} (h:RZ H r1 r2 p q) (z:∀v r M,bc H M->Told p q r->Xr M v r->Q v M):TnT H Q [.ref r1,.ref r2]
def TnP:Sp:=λvs H Q _=>TnT H Q vs
def O3 (o:gW p):0<eN (p.o-p.t) p.c/\eN (p.o-p.t) p.c<2^60/\(eZ (p.o-p.t) p.c).natAbs<2^60:=by have i1:=o.c1;have i2:=o.c9;have i3:=o.t1;have i4:=o.t9;have i5:=o.o1;have i6:=o.o9;have a:=lM (t:=p.o-p.t) (b:=p.c) ω;have b:=u6 (t:=p.o-p.t) (b:=p.c);have c:=uZ (t:=p.o-p.t) (b:=p.c);exact⟨a,ω,ω⟩
def R5 (F:gX K "trial_of" "trial_of" sTr f fd) (T:Txt mg) (DX:Xs P w K mg base 2 "exchanged_pair" ["one","other"] (XpC CN)) (DL:Df P w K mg base 2 "fraction_less" ["one","other"] FlC) (DM:Df P w K mg base 2 "margin" ["piece"] MgC):cG P w K mg base (yd P w) 3 f fd ["one","other"] (TrC CN):=by
 have sc:bx ["one","other","mine","yours","top","bottom"] ["one","other"] (aP sTr):={};refine F.okX sc (λvs H Q E h=>by cases h;rfl) (λeU A outer s H vs Q E hr h=>?_);refine⟨_,az (iP (pX DX hr (W:=λcls _ H'=>E cls none H') Ww (ae (pC 0) (ae (pC 1) aj))) (rY 2 (gY (aM (i:=2) sc.nd) (gY (aM (i:=3) sc.nd) rX)))) (su.Bk (az (iP (pD DL hr (ae (pD DM hr (ae (pC 0) aj)) (ae (pD DM hr (ae (pC 1) aj)) aj))) (rY 2 (gY (aM (i:=4) sc.nd) (gY (aM (i:=5) sc.nd) rX)))) (az (gI (fG (oK zi) (pC 4) aH (cO _)) (aO (bK (jx (ae (pC 2) (ae (pC 3) (ae (jx (ae (pC 4) (ae (pC 5) aj))) aj)))))) cj) (az (gI (fG (oK Vz) (pC 4) aH (cO _)) (aO (bK (jx (ae (pC 3) (ae (pC 2) (ae (jx (ae (sv Ao (pC 4)) (ae (pC 5) aj))) aj)))))) cj) (aO (bK (jx (ae (bj Xu rfl T.min DH (ae (pC 2) (ae (pC 3) aj))) (ae (bj Xv rfl T.max MI (ae (pC 2) (ae (pC 3) aj))) (ae (jx (ae aH (ae aH aj))) aj)))))))))),?_⟩;obtain @⟨r1,r2,p,q,⟨h1,h2,o1,o2,cp⟩,no,yes⟩:=h;refine XpI.mk ⟨h1,h2,o1,o2,cp⟩ no λm y t M1 x s1 w1=>pT.mk w1 rfl (Z9.mk (h1.up s1.vd) o1 λz1 M2 s2 w2=>Z9.mk (h2.up (s1.trans s2).vd) o2 λz2 M3 s3 w3=>?_);obtain⟨bp,lp,tp⟩:=O3 o1;obtain⟨bq,lq,tq⟩:=O3 o2;refine FlI.mk (s3 _ _ w2) w3 bp bq lp lq tp tq λz M4 s4 w4=>?_;have i1:=o1.c1;have i2:=o2.c1;obtain⟨fd1,fd2⟩:=RB (p:=p) (q:=q) ω ω;rw[fd1,fd2] at w4;have cc:0<p.c*q.c:=lW ω ω;obtain⟨sg1,sg2⟩:=Mt (t:=Gh p q) cc;have Dm:=((s1.trans s2).trans s3).trans s4;have fin:∀{a b:Str} {i j:Int},u9 p q m y=(a,b,i,j)->cU (.tup [.int i,.int j]) 2 M4 λv M=>cU (.tup [.str a,.str b,v]) 3 M Q:=λe=>cU.mk rfl λl N1 n1 x1 _=>cU.mk rfl λr N2 n2 x2 _=>yes m y r N2 x ((Dm.trans n1).trans n2) (by rw[e];exact⟨l,x2,n2 _ _ x1⟩);refine pT.mk w4 rfl (Mv (λu=>?_) λu=>?_)
 .have dp:=sg1.mp u;exact fin (by unfold u9;simp only[aJ dp])
 have nd:¬0<Gh p q:=λz=>u (sg1.mpr z);refine Mv (λu2=>?_) λu2=>?_
 .have dn:=sg2.mp u2;obtain⟨ng1,ng2⟩:=RC (t:=Gh p q) cc;exact fin (by unfold u9;simp only[aI nd,aJ dn,ng1,ng2])
 .have nn:¬Gh p q<0:=λz=>u2 (sg2.mpr z);have my:m≠y:=λz=>cp.no _ x.hm (z▸x.hy);refine fin (a:=if dH y m=true then y else m) (b:=if dH m y=true then y else m) ?_;unfold u9;simp only[aI nd,aI nn];rcases qK my with z|z
  .rw[aI (by rw[qQ z];decide),aI (by rw[qQ z];decide),aJ z]
  .rw[aJ z,aJ z,aI (by rw[qQ z];decide)]
abbrev sTn:Stmt:=top 57
def R6 (F:gX K "trial_or_none" "trial_or_none" sTn f fd) (mn:mg "NoTrial"=some (.ref CN)) (xm:exmOne K (.ref CN) (.ref CN)=some true) (DT:Xs P w K mg base 3 "trial_of" ["one","other"] (TrC CN)):cG P w K mg base fK 4 f fd ["one","other"] TnP:=by have sc:bx ["one","other"] ["one","other"] (aP sTn):={};exists sc;refine⟨_,aO (Rm (C:=CN) (tb:=λW=>Qi (IB (TrC CN) W (dF (vC 0) (dF (vC 1) gk)))) (ts:=Qi (tC .e_)) rfl rfl rfl mn (λac W=>aO (bK (pX DT hr Wy (ae (pC 0) (ae (pC 1) aj))))) (λa=>aO (bK jK))),?_⟩;obtain⟨h,z⟩:=h;exact TrI.mk h (λno M s=>⟨xm,z .e_ none M s (.inr ⟨no,rfl⟩) rfl⟩) λm y t M x s ta=>z _ (some _) M s (.inl ⟨m,y,x,rfl⟩) ⟨t,rfl,ta⟩
def MJ (p:oi):PyData:=.tuple [.tuple (fE p.a),.tuple (fE p.b),.int p.t,.int p.o,.int p.c]
def ID {H}(h:oS H r p):∃k,Tells H k (MJ p) (.ref r):=by obtain⟨a,b,h1,h2,h3⟩:=h;exact⟨r+a+b+1,eP.mpr ⟨r,_,rfl,(FC r a b).1,h1,cy.mpr ⟨_,_,rfl,eP.mpr ⟨a,_,rfl,(FC r a b).2.1,h2,gR p.a⟩,cy.mpr ⟨_,_,rfl,eP.mpr ⟨b,_,rfl,(FC r a b).2.2,h3,gR p.b⟩,cy.mpr ⟨_,_,rfl,iw.mpr rfl,cy.mpr ⟨_,_,rfl,iw.mpr rfl,cy.mpr ⟨_,_,rfl,iw.mpr rfl,fL.mpr rfl⟩⟩⟩⟩⟩⟩⟩
def Xw (o:gW p):QT (MJ p):=by
 have i1:=o.t1;have i2:=o.t9;have i3:=o.o1;have i4:=o.o9;have i5:=o.c1;have i6:=o.c9;refine(Bd.tuple (n:=13) (p:=1) (m:=5) (ds:=[.tuple (fE p.a),.tuple (fE p.b),.int p.t,.int p.o,.int p.c]) (λx hx=>?_) (ao 5)).mono δ δ;simp only[aU,bF,eE] at hx;rcases hx with rfl|rfl|rfl|rfl|rfl
 .exact qU o.a.ok (aB o.a.l4 δ)
 .exact qU o.b.ok (aB o.b.l4 δ)
 .exact(nv ω).mono δ δ
 .exact(nv ω).mono δ δ
 .exact(nv ω).mono δ δ
def iX (i:Nat):Stmt:=match top 59 with
 | .ClassDef _ _ _ b _ _ _ _ _ _ _=>b.getD i (.Pass ⟨0,0,0,0⟩)
 |_=>.Pass ⟨0,0,0,0⟩
def vE (P:aQ) (w:bg) (K:Φ) (mg:Aae) (base:Heap) (k:Nat) (C:aq) (m:Str) (ps:Aab) (sp:Sp):Prop:=CW K C/\∃f fd,cG P w K mg base fK k f fd ps sp/\Binds K fd ps []/\Bs K C m f
structure O4 (K:Φ) (C:aq):Prop where
 c:CW K C
 ns:m_ K C "states"
 nl:m_ K C "left"
abbrev Rows:=List (Nat×oi)
abbrev jN:=Str×Str×Int
def vh (H:Hp) (v:V) (x:Nat×oi):Prop:=∃u r,v=.ref u/\H u=some (.tup [.int x.1,.ref r])/\oS H r x.2
def vh.up {H}(h:vh H v x) (s:∀b xs,H b=some (.tup xs)->H' b=some (.tup xs)):vh H' v x:=by obtain⟨u,r,h1,h2,h3⟩:=h;exact⟨u,r,h1,s _ _ h2,h3.up s⟩
def gZ (H:Hp) (v:V) (r:jN):Prop:=∃a,v=.ref a/\H a=some (.tup [.str r.1,.str r.2.1,.int r.2.2])
def gZ.up {H}(h:gZ H v r) (s:∀b xs,H b=some (.tup xs)->H' b=some (.tup xs)):gZ H' v r:=by obtain⟨a,h1,h2⟩:=h;exact⟨a,h1,s _ _ h2⟩
def acM {α β:Type}{R S:α->β->Prop}:∀{as:List α}{bs:List β},Paired R as bs->(∀a b,R a b->S a b)->Paired S as bs
 |_,_,.nil,_=>.nil
 |_,_,.cons h t,f=>.cons (f _ _ h) (acM t f)
structure Cs where
 cC:List jN
 rows:Rows
 n:Nat
def Xx (H:Hp) (v:V) (S:Cs):Prop:=∃(st cr sd:aq) (ws us:Aac),v=.ref st/\H st=some (.tup [.ref cr,.ref sd,.int S.n])/\H cr=some (.tup ws)/\Paired (gZ H) ws S.cC/\H sd=some (.tup us)/\Paired (vh H) us S.rows
def Xx.up {H}(h:Xx H v S) (s:∀b xs,H b=some (.tup xs)->H' b=some (.tup xs)):Xx H' v S:=by obtain⟨st,cr,sd,ws,us,h1,h2,h3,h4,h5,h6⟩:=h;exact⟨st,cr,sd,ws,us,h1,s _ _ h2,s _ _ h3,acM h4 λ_ _ z=>z.up s,s _ _ h5,acM h6 λ_ _ z=>z.up s⟩
def fj (C:aq) (H:Hp) (cb sl ll:aq) (fV oq:List Cs):Prop:=∃(dx:aq) (vs ws:Aac),H cb=some (.ins C dx [("states",.ref sl),("left",.ref ll)])/\sl≠cb/\ll≠cb/\ll≠sl/\ H sl=some (.lst vs)/\H ll=some (.lst ws)/\Paired (Xx H) vs fV/\Paired (Xx H) ws oq
def fj.same {H}{cb sl ll:aq}(h:fj C H cb sl ll fV oq) (s:bc H H'):fj C H' cb sl ll fV oq:=by obtain⟨dx,vs,ws,c1,c2,c3,c4,c5,c6,c7,c8⟩:=h;exact⟨dx,vs,ws,s _ _ c1,c2,c3,c4,s _ _ c5,s _ _ c6,acM c7 λ_ _ z=>z.up λ_ _ e=>s _ _ e,acM c8 λ_ _ z=>z.up λ_ _ e=>s _ _ e⟩
def gq {H}(s:bc H H') (h:H' a=none):H a=none:=by
 cases e:H a with
 |none=>rfl
 |some o=>rw[s _ _ e] at h;cases h
abbrev IE:Stmt:=iX 0
abbrev sEq:Stmt:=iX 2
abbrev Cn:Stmt:=iX 3
abbrev IF:Stmt:=iX 4
abbrev IG:Stmt:=iX 7
abbrev R7:Stmt:=iX 8
abbrev IH:Stmt:=iX 11
abbrev R8:Stmt:=iX 12
abbrev R9:Stmt:=iX 13
def R_:bx ["self"] ["self"] (aP IE):={}
def II (C:aq):Sp:=λvs H Q _=>∃cb dx,vs=[.ref cb]/\H cb=some (.ins C dx [])/\∀sl ll H',(∀b o,b≠cb->H b=some o->H' b=some o)->H sl=none->H ll=none->fj C H' cb sl ll [⟨[],[],0⟩] []->Q .e_ H'
def MK (F:gX K "__init__" "Club.__init__" IE f fd) (CC:O4 K C):cG P w K mg base fK 1 f fd ["self"] (II C):=by
 refine F.ok R_ (λvs H Q E h=>?_) (λeU A outer s H vs Q E hr h=>?_)
 .obtain⟨cb,dx,rfl,_⟩:=h;rfl
 .obtain⟨cb,dx,rfl,hc,hQ⟩:=h;refine⟨_,az (Bv (pv 0) (xH (ae (uz (ae (uz aj) (ae (uz aj) (ae aH aj)))) aj)) rfl) (aO (Bv (pv 0) (xH aj) rfl)),?_⟩;refine⟨Bh,λt1 h1=>?_⟩;exists h1,.tup [],H,t1,s1,w1,M1;refine⟨Bh,λt2 h2=>?_⟩;exists h2,.tup [],M1,t2,s2,w2,M2;refine⟨Bh,λt3 h3=>?_⟩;exists h3,.tup [.ref t1,.ref t2,.int 0],M2,t3,s3,w3,M3;refine⟨Bh,λsl hsl=>?_⟩;have s4:=bZ hsl (.lst [.ref t3]);have w4:upd M3 sl (.lst [.ref t3]) sl=some (.lst [.ref t3]):=ba;have Dm:bc H (upd M3 sl (.lst [.ref t3])):=((s1.trans s2).trans s3).trans s4;have Sa:H sl=none:=by
   cases e:H sl with
   |none=>rfl
   |some o=>rw[((s1.trans s2).trans s3) _ _ e] at hsl;cases hsl
  try dsimp only
  generalize upd M3 sl (.lst [.ref t3])=M4 at*;have hc4:=Dm _ _ hc;refine⟨_,rfl,cb,C,dx,[],rfl,hc4,CC.c,CC.ns,δ,?_⟩;have nsc:sl≠cb:=λz=>by rw[z,hc] at Sa;cases Sa
  have k5:∀b o,b≠cb->M4 b=some o->upd M4 cb (.ins C dx (jU "states" (.ref sl) [])) b=some o:=λb o n e=>by rw[bN n];exact e
  have w5:upd M4 cb (.ins C dx (jU "states" (.ref sl) [])) cb=some (.ins C dx (jU "states" (.ref sl) [])):=ba;try dsimp only
  generalize upd M4 cb (.ins C dx (jU "states" (.ref sl) []))=M5 at*;refine⟨Bh,λll ML=>?_⟩;exists ML,.lst [],M5,ll,s6,w6,M6;refine⟨_,rfl,cb,C,dx,_,rfl,s6 _ _ w5,CC.c,CC.nl,(show 1<1000 by decide),?_⟩;have kH:∀b o,b≠cb->H b=some o->upd M6 cb (.ins C dx (jU "left" (.ref ll) (jU "states" (.ref sl) []))) b=some o:=λb o n e=>by rw[bN n];exact s6 _ _ (k5 _ _ n (Dm _ _ e))
  have k4:∀b o,b≠cb->M4 b=some o->upd M6 cb (.ins C dx (jU "left" (.ref ll) (jU "states" (.ref sl) []))) b=some o:=λb o n e=>by rw[bN n];exact s6 _ _ (k5 _ _ n e)
  have nT:∀b xs,M4 b=some (.tup xs)->b≠cb:=λb xs e z=>by rw[z,hc4] at e;cases e
  have v1:=((s2.trans s3).trans s4) _ _ w1;have v2:=(s3.trans s4) _ _ w2;have v3:=s4 _ _ w3;have abo:H ll=none:=by
   cases e:H ll with
   |none=>rfl
   |some o=>by_cases z:ll=cb
            .rw[z,w5] at ML;cases ML
            .rw[k5 _ _ z (Dm _ _ e)] at ML;cases ML
  have nlc:ll≠cb:=λz=>by rw[z,w5] at ML;cases ML
  have nls:ll≠sl:=λz=>by rw[z,k5 _ _ nsc w4] at ML;cases ML
  exact hQ sl ll _ kH Sa abo ⟨dx,[.ref t3],[],ba,nsc,nlc,nls,k4 _ _ nsc w4,by rw[bN nlc];exact w6,.cons ⟨t3,t1,t2,[],[],rfl,k4 _ _ (nT _ _ v3) v3,k4 _ _ (nT _ _ v1) v1,.nil,k4 _ _ (nT _ _ v2) v2,.nil⟩ .nil,.nil⟩
def MM:bx ["self","crew","standing","following"] ["self","crew","standing","following"] (aP Cn):={}
def Kp3 (a b c:aq) (H H':Hp):Prop:=∀x o,x≠a->x≠b->x≠c->H x=some o->H' x=some o
def pW {α β:Type}{R:α->β->Prop}:∀{as:List α}{bs:List β},Paired R as bs->as.length=bs.length
 |_,_,.nil=>rfl
 |_,_,.cons _ t=>by simp[pW t]
def sQ {α β:Type}{R:α->β->Prop}:∀{as:List α}{bs:List β}{b:β},Paired R as (bs++ [b])->∃as' a,as=as'++ [a]/\Paired R as' bs/\R a b
 |_,[],_,.cons h .nil=>⟨[],_,rfl,.nil,h⟩
 |_,_::bs,_,.cons h t=>by obtain⟨as',a,rfl,h1,h2⟩:=sQ (bs:=bs) t;exact⟨_::as',a,rfl,.cons h h1,h2⟩
def yu:bx ["self","piece","crew","standing","following"] ["self","piece"] (aP IG):={}
def DJ:bx ["self","number","crew","standing","following"] ["self","number"] (aP R7):={}
def abp:List (Str×NameKind):=[(".0",.local),("told",.local),("number",.free)]
def abq:(["told","number"]:Aab).Nodup:=η
def Xy:(["other","piece"]:Aab).Nodup:=η
def MN (rows:Rows) (k:Int):Rows:=rows.filter λx=>!decide ((x.1:Int)=k)
def MO (rows:Rows) (k:Int):Bool:=rows.any λx=>decide ((x.1:Int)=k)
def MP (ns:Rows):Gc (.int k) (ns.map λx=>V.int x.1)=MO ns k:=by unfold Gc MO;rw[A9];congr 1
def FD (ns:Rows):(ns.map λx=>V.int x.1).all kF=true:=by rw[Eu];intro v hv;obtain⟨x,_,rfl⟩:=br.mp hv;rfl
def Sb:bx ["self"] ["self"] (aP IH):={}
def Xz:bx ["self"] ["self"] (aP R8):={}
open Classical in
noncomputable def mH (p q:oi):Option RX:=if h:∃m y,Xp p q m y then some (u9 p q h.choose h.choose_spec.choose) else none
def IJ (P:jd p) (h:Told p q r):r=mH p q:=by
 refine h.uniq P ?_;unfold mH;split
 .rename_i h;exact .inl ⟨_,_,h.choose_spec.choose_spec,rfl⟩
 .rename_i h;exact .inr ⟨λm y x=>h ⟨m,y,x⟩,rfl⟩
abbrev Row3:=Nat×Nat×RX
def Co (i j:Nat):Option RX->List Row3
 |none=>[]
 |some t=>[(i,j,t)]
noncomputable def Kp (x:Nat×oi):Rows->List Row3
 | []=>[]
 |y::ys=>Co x.1 y.1 (mH x.2 y.2)++Kp x ys
noncomputable def Ax:Rows->List Row3
 | []=>[]
 |x::xs=>Kp x xs++Ax xs
def nK (H:Hp) (v:V) (r:Row3):Prop:=∃a q,v=.ref a/\H a=some (.tup [.int r.1,.int r.2.1,.ref q])/\yt H q r.2.2
def yt.up {H}(h:yt H q r) (s:∀b xs,H b=some (.tup xs)->H' b=some (.tup xs)):yt H' q r:=by obtain⟨l,h1,h2⟩:=h;exact⟨l,s _ _ h1,s _ _ h2⟩
def nK.up {H}(h:nK H v r) (s:∀b xs,H b=some (.tup xs)->H' b=some (.tup xs)):nK H' v r:=by obtain⟨a,q,h1,h2,h3⟩:=h;exact⟨a,q,h1,s _ _ h2,h3.up s⟩
def qV:bx ["self","found","standing","at","one","piece","other","later","trial"] ["self"] (aP R9):={}
def cY.two {X:Cx}{scope:Scope}{nm:List (Str×NameKind)}{v fr fs:Str}{j k:Nat}(hN:X.N[j]?=some fr) (hM:X.N[k]?=some fs) (hk:scope.kind=.function) (hn:scope.names=nm) (h1:X.env.scope.names.lookup fr=some .cell) (h2:X.env.scope.names.lookup fs=some .cell) (c1:∀y∈nm,y.2≠.cell:=by decide+kernel) (c2:∀y∈nm,y.2=.local->nm.lookup y.1=some .local:=by decide+kernel) (c3:∀y∈nm,y.2=.free->y.1=fr\/y.1=fs:=by decide+kernel) (c4:(fr,NameKind.free)∈nm:=by decide+kernel) (c5:nm.lookup fr=some .free:=by decide+kernel) (c6:(fs,NameKind.free)∈nm:=by decide+kernel) (c7:nm.lookup fs=some .free:=by decide+kernel):cY X scope [v,fr,fs] [none,some j,some k] where
 kind:=hk
 jm:=by rw[hn];exact c1
 own:=by rw[hn];exact c2
 out:=by
  rw[hn];intro y hy e;rcases c3 y hy e with z|z
  .rw[z];exact .inl h1
  .rw[z];exact .inl h2
 len:=rfl
 free:=by
  intro i j' x e1 e2;rw[hn]
  match i,e1,e2 with
  |1,e1,e2=>cases e1;cases e2;exact⟨hN,c4,c5⟩
  |2,e1,e2=>cases e1;cases e2;exact⟨hM,c6,c7⟩
  |n+3,e1,e2=>simp at e1
def km (l:List jN):List jN:=l.mergeSort λa b=>!oO b a
def IL {a b:List jN}(ha:a.Pairwise λe e'=>oO e' e=false) (hb:b.Pairwise λe e'=>oO e' e=false) (p:a.Perm b):a=b:=qj (λx y _ _ h1 h2=>by
  by_cases e:x=y
  .exact e
  .rcases uS.UJ _ _ e with z|z
   .rw[z] at h2;cases h2
   .rw[z] at h1;cases h1) ha hb p
def O5 (h:oO a b=true):oO b a=false:=by
 cases e:oO b a with
 |false=>rfl
 |true=>have:=uS.trans _ _ _ h e;rw[uS.LD] at this;cases this
def jX (l:List jN):(km l).Pairwise λe e'=>oO e' e=false:=by
 have:=List.pairwise_mergeSort (le:=λa b:jN=>!oO b a) (λa b c h1 h2=>by
  simp only[Bool.not_eq_true'] at h1 h2⊢;by_cases e1:a=b
  .rw[e1];exact h2
  by_cases e2:b=c
  .rw[<-e2];exact h1
  have g1:oO a b=true:=by rcases uS.UJ _ _ e1 with z|z;exact z;rw[z] at h1;cases h1
  have g2:oO b c=true:=by rcases uS.UJ _ _ e2 with z|z;exact z;rw[z] at h2;cases h2
  exact O5 (uS.trans _ _ _ g1 g2)) (λa b=>by
  cases e:oO b a with
  |false=>rfl
  |true=>rw[O5 e];rfl) l;exact this.imp λh=>by simpa using h
def js (l:List jN):(km l).Perm l:=List.mergeSort_perm _ _
def vm (p:l'.Perm l) (s:l'.Pairwise λe e'=>oO e' e=false):l'=km l:=IL s (jX l) (p.trans (js l).symm)
def DY {H}:∀{ws:Aac}{cC:List jN},Paired (gZ H) ws cC->∃L:List (rT (Str×Str×Int)),ws=L.map (λe=>V.ref e.a)/\L.map (·.key)=cC/\∀e∈L,RwE H e
 |_,_,.nil=>⟨[],rfl,rfl,λ_ h=>nomatch h⟩
 |_,_,.cons (b:=r) ⟨a,e1,e2⟩ t=>by
  obtain⟨L,h1,h2,h3⟩:=DY t;refine⟨⟨a,r.1,[.str r.2.1,.int r.2.2],r⟩::L,by rw[e1,h1];rfl,by rw[bG,h2],λe he=>?_⟩;rcases aU.mp he with rfl|he
  .exact⟨rfl,rfl,e2⟩
  .exact h3 e he
def DZ {H}:∀{L:List (rT (Str×Str×Int))},(∀e∈L,RwE H e)->Paired (gZ H) (L.map λe=>V.ref e.a) (L.map (·.key))
 | [],_=>.nil
 |e::L,h=>.cons ⟨e.a,rfl,(h e (.head _)).2.2⟩ (DZ λx hx=>h x (.tail _ hx))
abbrev Sd:Stmt:=top 58
def XA:bx ["crew"] ["crew"] (aP Sd):={}
def abr:(["rower"]:Aab).Nodup:=η
def eO (cC:List jN):Aab:=cC.map (·.1)
def yv (x:Str) (ns:Aab):Gc (.str x) (ns.map V.str)=decide (x∈ns):=by
 unfold Gc;rw[A9];induction ns with
 |nil=>rfl
 |cons a l ih=>
  rw[iu,ih];have:Hc (V.str a) (.str x)=decide (a=x):=rfl;show(Hc (V.str a) (.str x)||_)=_;rw[this];by_cases e:a=x
  .subst e;simp
  .have e':¬x=a:=λz=>e z.symm;simp[e,e']
def rZ (ns:Aab):(ns.map V.str).all kF=true:=by rw[Eu];intro v hv;obtain⟨x,_,rfl⟩:=br.mp hv;rfl
def yz:bx ["self","rower","crew","standing","following"] ["self","rower"] (aP IF):={}
def IM (r:jN):PyData:=.tuple [.str r.1,.str r.2.1,.int r.2.2]
def trD (r:RX):PyData:=.tuple [.str r.1,.str r.2.1,.tuple [.int r.2.2.1,.int r.2.2.2]]
def FE (r:RX):Prop:=okN r.1/\okN r.2.1/\r.2.2.1.natAbs<2^200/\r.2.2.2.natAbs<2^200
def acA (h:FE r):Bd 10 2 (trD r):=by
 obtain⟨h1,h2,h3,h4⟩:=h;have b1:Bd 3 1 (.tuple [.int r.2.2.1,.int r.2.2.2]):=by
  refine(Bd.tuple (n:=1) (p:=0) (m:=2) (ds:=[.int r.2.2.1,.int r.2.2.2]) (λx hx=>?_) (ao 2)).mono δ δ;simp only[aU,bF,eE] at hx;rcases hx with rfl|rfl
  .exact nv h3
  .exact nv h4
 refine(Bd.tuple (n:=3) (p:=1) (m:=3) (ds:=[.str r.1,.str r.2.1,.tuple [.int r.2.2.1,.int r.2.2.2]]) (λx hx=>?_) (ao 3)).mono δ δ;simp only[aU,bF,eE] at hx;rcases hx with rfl|rfl|rfl
 .exact(rP h1.1 h1.2.1).mono δ δ
 .exact(rP h2.1 h2.2.1).mono δ δ
 .exact b1
def XB (o1:gW p) (o2:gW q) (x:Xp p q m y):FE (u9 p q m y):=by
 have UQ:=o1.a.ok m x.hm;have UR:=o1.b.ok y x.hy;have i1:=o1.c1;have i2:=o1.c9;have i3:=o2.c1;have i4:=o2.c9;have i5:=o1.t1;have i6:=o1.t9;have i7:=o1.o1;have i8:=o1.o9;have j5:=o2.t1;have j6:=o2.t9;have j7:=o2.o1;have j8:=o2.o9;have m1:((p.o-p.t)*q.c).natAbs<2^70:=oo (a:=35) (b:=35) ω ω;have m2:((q.o-q.t)*p.c).natAbs<2^70:=oo (a:=35) (b:=35) ω ω;have m3:(p.c*q.c).natAbs<2^70:=oo (a:=35) (b:=35) ω ω;have ld:(Gh p q).natAbs<2^80:=by unfold Gh;omega
 have ft:∀d:Int,d.natAbs<2^80->(eZ d (p.c*q.c)).natAbs<2^200:=λd hd=>by have:=uZ (t:=d) (b:=p.c*q.c);omega
 have fb:∀d:Int,(eN d (p.c*q.c)).natAbs<2^200:=λd=>by have:=u6 (t:=d) (b:=p.c*q.c);omega
 unfold u9;dsimp only;split
 .exact⟨UQ,UR,ft _ ld,fb _⟩
 .split
  .exact⟨UR,UQ,ft _ ω,fb _⟩
  .refine⟨?_,?_,(show(0:Int).natAbs<2^200 by decide),(show(1:Int).natAbs<2^200 by decide)⟩
   .show okN (if dH y m=true then y else m);split
    .exact UR
    .exact UQ
   .show okN (if dH y m=true then m else y);split
    .exact UQ
    .exact UR
def Ay (H:Hp) (d:PyData) (v:V):Prop:=∃k0:Nat,∀k:Nat,k0<=k->Tells H k d v
def Az (H:Hp) (ds:List PyData) (vs:Aac):Prop:=∃k0:Nat,∀k:Nat,k0<=k->cW H k ds vs
def yB (h:Nat.add (Nat.add k0 a) 1<=k):k0<=k/\a≠k:=by have h:k0+a+1<=k:=h;exact⟨ω,ω⟩
def Ay.one {H}(h:Ay H d v):∃k,Tells H k d v:=let⟨k,t⟩:=h;⟨k,t k (ao k)⟩
def mx {H}(x:Str):Ay H (.str x) (.str x):=⟨0,λ_ _=>gU.mpr rfl⟩
def fM {H}(i:Int):Ay H (.int i) (.int i):=⟨0,λ_ _=>iw.mpr rfl⟩
def D0 {H}:Ay H .none .e_:=⟨0,λ_ _=>pP.mpr rfl⟩
def fm {H}:Az H [] []:=⟨0,λ_ _=>fL.mpr rfl⟩
def bI {H}(h:Ay H d v) (t:Az H ds vs):Az H (d::ds) (v::vs):=by obtain⟨k1,t1⟩:=h;obtain⟨k2,t2⟩:=t;exact⟨k1+k2,λk hk=>cy.mpr ⟨_,_,rfl,t1 k ω,t2 k ω⟩⟩
def fz {H}(h:H a=some (.tup vs)) (t:Az H ds vs):Ay H (.tuple ds) (.ref a):=by obtain⟨k0,t⟩:=t;exact⟨Nat.add (Nat.add k0 a) 1,λk hk=>eP.mpr ⟨a,vs,rfl,(yB (k0:=k0) hk).2,h,t _ (yB (k0:=k0) (a:=a) hk).1⟩⟩
def jy {H}(h:H a=some (.lst vs)) (t:Az H ds vs):Ay H (.list ds) (.ref a):=by obtain⟨k0,t⟩:=t;exact⟨Nat.add (Nat.add k0 a) 1,λk hk=>pO.mpr ⟨a,vs,rfl,(yB (k0:=k0) hk).2,h,t _ (yB (k0:=k0) (a:=a) hk).1⟩⟩
def iA {α:Type}{H:Hp}{R:V->α->Prop}{f:α->PyData}(g:∀v x,R v x->Ay H (f x) v):∀{ws:Aac}{L:List α},Paired R ws L->Az H (L.map f) ws
 |_,_,.nil=>fm
 |_,_,.cons h t=>bI (g _ _ h) (iA g t)
def ip {H}(ns:Aab):Az H (fE ns) (ns.map V.str):=⟨0,λ_ _=>gR ns⟩
def O6 (x:Nat×oi):PyData:=.tuple [.int x.1,MJ x.2]
def r3D (r:Row3):PyData:=.tuple [.int r.1,.int r.2.1,trD r.2.2]
def Se {H}(h:oS H r p):Ay H (MJ p) (.ref r):=by obtain⟨a,b,h1,h2,h3⟩:=h;exact fz h1 (bI (fz h2 (ip _)) (bI (fz h3 (ip _)) (bI (fM _) (bI (fM _) (bI (fM _) fm)))))
def yC {H}(v:V) (r:jN) (h:gZ H v r):Ay H (IM r) v:=by obtain⟨a,rfl,h1⟩:=h;exact fz h1 (bI (mx _) (bI (mx _) (bI (fM _) fm)))
def Cp {H}(v:V) (x:Nat×oi) (h:vh H v x):Ay H (O6 x) v:=by obtain⟨u,r,rfl,h1,h2⟩:=h;exact fz h1 (bI (fM _) (bI (Se h2) fm))
def Sf {H}(v:V) (x:Row3) (h:nK H v x):Ay H (r3D x) v:=by obtain⟨a,q,rfl,h1,l,h2,h3⟩:=h;exact fz h1 (bI (fM _) (bI (fM _) (bI (fz h2 (bI (mx _) (bI (mx _) (bI (fz h3 (bI (fM _) (bI (fM _) fm))) fm)))) fm)))
def D3 {α:Type} [DecidableEq α] {f:α->PyData}(h:∀a b,PyData.eqv (f a) (f b)=decide (a=b)):∀a b:List α,PyData.eqvAll (a.map f) (b.map f)=decide (a=b)
 | [],[]=>by simp[PyData.eqvAll]
 | [],_::_=>by simp[PyData.eqvAll]
 |_::_,[]=>by simp[PyData.eqvAll]
 |x::a,y::b=>by
  rw[bG,bG,PyData.eqvAll,D3 h a b,h];by_cases e:x=y
  .subst e;simp
  .simp[e]
def AA {α:Type} [DecidableEq α] {f:α->PyData}(h:∀a b,PyData.eqv (f a) (f b)=decide (a=b)) (a b:List α):PyData.eqv (.list (a.map f)) (.list (b.map f))=decide (a=b):=by rw[<-D3 h];rw[PyData.eqv]
def Sg (a b:jN):PyData.eqv (IM a) (IM b)=decide (a=b):=by obtain⟨a1,a2,a3⟩:=a;obtain⟨b1,b2,b3⟩:=b;unfold IM;by_cases e1:a1=b1<;>by_cases e2:a2=b2<;>by_cases e3:a3=b3<;>simp[PyData.eqv,PyData.eqvAll,e1,e2,e3]
instance:DecidableEq oi:=λp q=>decidable_of_iff (p.a=q.a/\p.b=q.b/\p.t=q.t/\p.o=q.o/\p.c=q.c) (by cases p;cases q;simp)
def Sh (p q:oi):PyData.eqv (MJ p) (MJ q)=decide (p=q):=by obtain⟨a1,a2,a3,a4,a5⟩:=p;obtain⟨b1,b2,b3,b4,b5⟩:=q;unfold MJ;have h1:=lO a1 b1;have h2:=lO a2 b2;by_cases e1:a1=b1<;>by_cases e2:a2=b2<;>by_cases e3:a3=b3<;>by_cases e4:a4=b4<;>by_cases e5:a5=b5<;>simp[PyData.eqv,PyData.eqvAll,h1,h2,e1,e2,e3,e4,e5]<;>simp_all [PyData.eqv]
def Si (a b:Nat×oi):PyData.eqv (O6 a) (O6 b)=decide (a=b):=by obtain⟨a1,a2⟩:=a;obtain⟨b1,b2⟩:=b;unfold O6;by_cases e1:a1=b1<;>by_cases e2:a2=b2<;>simp[PyData.eqv,PyData.eqvAll,Sh,e1,e2,Int.natCast_inj]
def Sj (r:jN):Prop:=okN r.1/\okN r.2.1/\r.2.2.natAbs<2^200
structure AB (S:Cs):Prop where
 cC:∀r∈S.cC,Sj r
 rows:∀x∈S.rows,gW x.2/\jd x.2
 num:∀x∈S.rows,x.1<=100000
 lc:S.cC.length<=8
 lr:S.rows.length<=31
def O7 (h:Sj r):Bd 4 1 (IM r):=by
 refine(Bd.tuple (n:=1) (p:=0) (m:=3) (ds:=[.str r.1,.str r.2.1,.int r.2.2]) (λx hx=>?_) (ao 3)).mono δ δ;simp only[aU,bF,eE] at hx;rcases hx with rfl|rfl|rfl
 .exact rP h.1.1 h.1.2.1
 .exact rP h.2.1.1 h.2.1.2.1
 .exact nv h.2.2
def MQ {l:List jN}(h:∀r∈l,Sj r) (hl:l.length<=100):Bd 401 2 (.list (l.map IM)):=by refine(Bd.list (n:=4) (p:=1) (m:=100) (λx hx=>?_) (by rw[ah];exact hl)).mono δ δ;obtain⟨r,hr,rfl⟩:=br.mp hx;exact O7 (h r hr)
def XC (h:gW x.2) (hn:x.1<=100000):Bd 2001 16 (O6 x):=by
 refine(Bd.tuple (n:=1000) (p:=15) (m:=2) (ds:=[.int x.1,MJ x.2]) (λy hy=>?_) (ao 2)).mono δ δ;simp only[aU,bF,eE] at hy;rcases hy with rfl|rfl
 .exact(nv ω).mono δ δ
 .exact Xw h
def MS {l:Rows}(h:∀x∈l,gW x.2/\jd x.2) (hn:∀x∈l,x.1<=100000) (hl:l.length<=100):Bd 200101 17 (.list (l.map O6)):=by refine(Bd.list (n:=2001) (p:=16) (m:=100) (λx hx=>?_) (by rw[ah];exact hl)).mono δ δ;obtain⟨r,hr,rfl⟩:=br.mp hx;exact XC (h r hr).1 (hn r hr)
def AD (h:r∈Co i j o):∃t,o=some t/\r=(i,j,t):=by
 cases o with
 |none=>cases h
 |some t=>exact⟨t,rfl,by simpa[Co] using h⟩
def IP (o1:gW p) (o2:gW q) (h:mH p q=some t):FE t:=by
 unfold mH at h;split at h
 .rename_i x;cases h;exact XB o1 o2 x.choose_spec.choose_spec
 .cases h
def IQ (hx:gW x.2) (nx:x.1<=100000):∀{l:Rows},(∀y∈l,gW y.2)->(∀y∈l,y.1<=100000)->r∈Kp x l->r.1<=100000/\r.2.1<=100000/\FE r.2.2
 | [],_,_,h=>by cases h
 |y::l,ho,hn,h=>by
  rcases aX.mp h with h|h
  .obtain⟨t,e,rfl⟩:=AD h;exact⟨nx,hn y (.head _),IP hx (ho y (.head _)) e⟩
  .exact IQ hx nx (λz hz=>ho z (.tail _ hz)) (λz hz=>hn z (.tail _ hz)) h
def IS:∀{l:Rows},(∀y∈l,gW y.2)->(∀y∈l,y.1<=100000)->r∈Ax l->r.1<=100000/\r.2.1<=100000/\FE r.2.2
 | [],_,_,h=>by cases h
 |y::l,ho,hn,h=>by
  rcases aX.mp h with h|h
  .exact IQ (ho y (.head _)) (hn y (.head _)) (λz hz=>ho z (.tail _ hz)) (λz hz=>hn z (.tail _ hz)) h
  .exact IS (λz hz=>ho z (.tail _ hz)) (λz hz=>hn z (.tail _ hz)) h
def AB.XD (h:AB S):Lay (.list (S.cC.map IM)):=(MQ h.cC (aB h.lc δ)).lay δ
def AB.layR (h:AB S):Lay (.list (S.rows.map O6)):=(MS h.rows h.num (aB h.lr δ)).lay δ
structure Sk (K:Φ) (C:aq):Prop where
 cl:CW K C
 ha:findIn K (.ref C) "__class__"=some (some (.builtin "object.__class__"))
 hn:specialIn K (.builtin "object.__class__") "__get__"=some (some (.builtin "getset_descriptor.__get__"))
 ZI:takesIn K (.builtin "object.__class__")=some true
 hm:mroIn K C (.type "object")=some true
def Sl (K:Φ):Aac->Hp->VK->Prop:=λxs H Q=>∃a C D dx fs b,xs=[.ref a,.ref D]/\H a=some (.ins C dx fs)/\Sk K C/\kitOne K (.ref C) (.ref D)=some b/\Q (.bl b) H
def Cq:dR X (.builtin "isinstance") (Sl X.K):=by intro ac s U H xs us Q I r h;obtain⟨a,C,D,dx,fs,b,rfl,ha,F,e,q⟩:=h;obtain⟨u,u',rfl,r1,r2⟩:=vals2 r;cases(show u=Value.ref a from r1);cases(show u'=Value.ref D from r2);exact wx I (x:=.ref a) rfl (.ins ha F.cl F.ha F.hn F.ZI F.hm) e λtk=>⟨.bl b,H,I.tok tk,rfl,q⟩
def abt:bx ["self","other"] ["self","other"] (aP sEq):={}
end
inductive MT (H:Hp) (Q:VK):Aac->Prop
 |mk {k:aq} {v:V} {n:String} {d:PyData} (t:Tells H k d v) (h:n="int"\/n="bool"\/n="str"\/n="tuple"\/n="list") (q:Q (.bl (wL d n)) H):MT H Q [v,.ty n]
def abu:Aac->Hp->VK->Prop:=λvs H Q=>MT H Q vs
def Sm (tc:TE) (r':R2) (y:V) (U:St) (Q:VK) (H:Hp):V->Prop
 | .bl true=>tc U H λz H4=>r' y z H4 Q
 | .bl false=>Q (.bl false) H
 |_=>False
def IT (r r':R2) (ta tb tc:TE):TE:=λU H Q=>ta U H λx H1=>tb U H1 λy H2=>r x y H2 λz H3=>Sm tc r' y U Q H3 z
inductive IU (f:List Bool->Bool) (H:Hp) (Q:VK):Aac->Prop
 |mk {p:aq} {bs:List Bool} (h:H p=some (.lst (bs.map V.bl))) (q:Q (.bl (f bs)) H):IU f H Q [.ref p]
def XE (f:List Bool->Bool):Aac->Hp->VK->Prop:=λvs H Q=>IU f H Q vs
inductive ZiK (K:Φ) (R:It->Hp->Prop) (H:Hp):Aac->Prop
 |mk {a b:aq} {xs ys:Aac} (h1:H a=some (.tup xs)) (h2:H b=some (.tup ys)) (q:R (Itz K a b) H):ZiK K R H [.ref a,.ref b]
def iZ (K:Φ) (ta:TA):TI:=λU H R=>ta U H λvs H1=>ZiK K R H1 vs
def kLs (g:Str->Str->V) (Q:VK) (H:Hp):V->V->Prop
 | .str i,.str j=>Q (g i j) H
 |_,_=>False
def rLs (g:Str->Str->V):R2:=λx y H Q=>kLs g Q H x y
def oLs:gT X (compareOp .Lt) (rLs λi j=>.bl (decide (i.cps.toList<j.cps.toList))):=EC.wk λx y H Q q=>by cases x<;>cases y<;>first|exact⟨_,_,rfl,rfl,q⟩|cases q
def MU:bootBuiltins "any"=some (.builtin "any"):=η
section
variable {a b c:Expr}{ta tb tc:TE}{tv:TA}
def XF:dR X (.builtin "isinstance") abu:=lH.wk λx H Q q=>by
 cases q with
 |mk t h q=>exact⟨_,_,_,_,rfl,t,h,q⟩
def XG (hc:X.calm=true:=by rfl):dR X (.builtin "all") (XE λbs=>bs.all id):=(zC hc).wk λx H Q q=>by
 cases q with
 |mk h q=>exact⟨_,_,rfl,gj.of h,q⟩
def abv (hc:X.calm=true:=by rfl):dR X (.builtin "any") (XE λbs=>bs.any id):=(Ht hc).wk λx H Q q=>by
 cases q with
 |mk h q=>exact⟨_,_,rfl,gj.of h,q⟩
def piZ (K:Φ) (hg:Gl X "zip") (hm:X.mg "zip"=none) (ha:PA X [e1,e2] tv) (hK:X.K=K:=by rfl) (hs:starEach [e1,e2] X.env=[(false,eval e1 X.env),(false,eval e2 X.env)]:=by rfl) (K2:starEach [e2] X.env=[(false,eval e2 X.env)]:=by rfl):
  PI X (.Tuple elts kk tp) (.Call (.Name "zip" p) [e1,e2] [] pos) (iZ K tv):=by
 subst hK;intro ac s U H R I q;refine Call_ (kQ I hg hm ES (fP (dq (ha pos ac s U H _ I q) λus s1 ⟨vs,H1,I1,r1,q1⟩=>?_) (by rw[hs,K2]) (by rw[K2];rfl)));cases q1 with
 | @mk a b xs ys UB UC q=>
  obtain⟨u1,u2,rfl,ru1,ru2⟩:=vals2 r1;cases(show u1=Value.ref a from ru1);cases(show u2=Value.ref b from ru2);obtain⟨BL,ZN,p1,_⟩:=I1.tuple (iY.of UB);obtain⟨jV,ZO,p2,_⟩:=I1.tuple (iY.of UC);have la:a<s1.heap.objs.size:=by obtain⟨o,e,_⟩:=(show s1.heap.IsTuple a BL.toArray from p1);exact aG e
  have lb:b<s1.heap.objs.size:=by obtain⟨o,e,_⟩:=(show s1.heap.IsTuple b jV.toArray from p2);exact aG e
  refine EO (show s1.heap.IsTuple a BL.toArray from p1) (show s1.heap.IsTuple b jV.toArray from p2) λh' a1 a2 a3 a4 a5 kp=>wpAny_pyIter_zip a1 ?_;refine⟨_,[s1.heap.objs.size+4,s1.heap.objs.size+2,s1.heap.objs.size+3,s1.heap.objs.size,s1.heap.objs.size+1],_,_,H1,rfl,I1.kept (t':=s1.toks) kp,ER _ _ _ _ _ a b (zipApart_new la lb),⟨a1,a2,⟨_,_,a3⟩,a4,a5⟩,λc hc=>?_,q⟩;have ge:s1.heap.objs.size<=c:=by
   simp only[aU,bF,eE] at hc;rcases hc with rfl|rfl|rfl|rfl|rfl
   .exact fZ _ _
   .exact fZ _ _
   .exact fZ _ _
   .exact ao _
   .exact fZ _ _
  exact I1.pL ge (I1.dh.fresh ge)
def XH (ho:gT X (compareOp op) r) (wt:gT X (compareOp GV) r') (ha:PE X a ta) (hb:PE X b tb) (hc:PE X c tc) (hm:lastMarks [op,GV] [b,c]=false:=by with_unfolding_all rfl):PT X (.Compare a [op,GV] [b,c] pos) (nG (IT r r' ta tb tc)):=by
 intro ac s U H Q I h;refine isTrue_chain (dq (ha ac s U H _ I h) λv s1 ⟨x,H1,I1,r1,q1⟩=>test_link (dq (hb ac s1 U H1 _ I1 q1) λu s2 ⟨y,H2,I2,r2,q2⟩=>
  dq (ho ac s2 U H2 x y v u _ I2 r1 r2 q2) λd s3 ⟨z,H3,I3,r3,q3⟩=>?_)) hm;cases z with
 |bl k=>
  cases r3;refine bB ?_;cases k with
  |false=>obtain⟨_,e,q4⟩:=Dw (show kB Q H3 (.bl false) from q3);cases e;exact ite_ff ⟨H3,I3,q4⟩
  |true=>refine ite_tt (test_last (dq (hc ac s3 U H3 _ I3 q3) λw' s4 ⟨z',H4,I4,r4,q4⟩=>dq (wt ac s4 U H4 y z' u w' _ I4 r2 r4 q4) λe s5 ⟨z5,H5,I5,r5,q5⟩=>?_));obtain⟨k5,e5,q6⟩:=Dw q5;subst e5;cases r5;exact bB ⟨H5,I5,q6⟩
 |_=>cases q3
def XI (ho:gT X (compareOp op) r) (wt:gT X (compareOp GV) r') (ha:PE X a ta) (hb:PE X b tb) (hc:PE X c tc) (hm:lastMarks [op,GV] [b,c]=false:=by with_unfolding_all rfl):PE X (.Compare a [op,GV] [b,c] pos) (IT r r' ta tb tc):=by
 intro ac s U H Q I h;refine Compare_chain (dq (ha ac s U H _ I h) λv s1 ⟨x,H1,I1,r1,q1⟩=>chain_link (dq (hb ac s1 U H1 _ I1 q1) λu s2 ⟨y,H2,I2,r2,q2⟩=>
  dq (ho ac s2 U H2 x y v u _ I2 r1 r2 q2) λd s3 ⟨z,H3,I3,r3,q3⟩=>?_)) hm;cases z with
 |bl k=>
  cases r3;refine bB ?_;cases k with
  |false=>exact ite_ff ⟨.bl false,H3,I3,rfl,q3⟩
  |true=>exact ite_tt (chain_last (dq (hc ac s3 U H3 _ I3 q3) λw' s4 ⟨z',H4,I4,r4,q4⟩=>wt ac s4 U H4 y z' u w' Q I4 r2 r4 q4))
 |_=>cases q3
end
def lcZ {K:Φ} (P:Nat->V->Prop) (Fr:St->Prop) (hD:H1 D=none) (h1:H1 a=some (.tup xs)) (h2:H1 b=some (.tup ys)) (lx:n<=xs.length) (ly:n<=ys.length) (le:xs.length=n\/ys.length=n) (hn:n<=1000) (f0:Fr kr) (st:∀i U M T x y (Y:V->St->Hp->Prop),Fr U->xs[i]?=some x->ys[i]?=some y->M T=some (.tup [x,y])->(∀z cz M2,Fr cz->bc M M2->P i z->Y z cz M2)->g (.ref T) U M λcz H3=>te cz H3 λy H5=>Y y cz H5) (q:∀zs M,bc H1 M->M D=some (.lst zs)->zs.length=n->(∀i z,zs[i]?=some z->P i z)->Q (.ref D) M):tj (Itz K a b) g lF te kr H1 Q D:=by
 refine ET (n:=n) (u:=λi=>xs.getD i .e_) (v:=λi=>ys.getD i .e_) (λi zs U M=>Fr U/\bc H1 M/\zs.length=i/\∀j z,zs[j]?=some z->P j z) hD hn ⟨f0,bZ hD _,rfl,λ_ _ h=>nomatch h⟩ (λi zs U M hi hy ⟨_,s,_⟩=>⟨λe=>⟨xs,ys,iY.of (s _ _ h1),iY.of (s _ _ h2),ω⟩,λl=>?_⟩) ?_ λzs U M hy ⟨_,s,l,p⟩=>q zs M s hy l p
 .have ex:xs[i]?=some (xs.getD i .e_):=by rw[aw,ag ω];rfl
  have ey:ys[i]?=some (ys.getD i .e_):=by rw[aw,ag ω];rfl
  refine⟨⟨xs,ys,_,_,iY.of (s _ _ h1),iY.of (s _ _ h2),ex,ey⟩,λx H' ⟨T,x1,y1,e0,e1,e2,e3,e4⟩=>⟨T,e0,e1,?_⟩⟩;have a1:=e3 _ (iY.of (s _ _ h1));have a2:=e4 _ (iY.of (s _ _ h2));rw[ex] at a1;rw[ey] at a2;cases a1;cases a2;exact e2
 .rintro i zs U M T hi hy ⟨fr,s,l,p⟩ hT;have ex:xs[i]?=some (xs.getD i .e_):=by rw[aw,ag ω];rfl
  have ey:ys[i]?=some (ys.getD i .e_):=by rw[aw,ag ω];rfl
  have sT:=bZ hT (.tup [xs.getD i .e_,ys.getD i .e_]);refine st i U _ T _ _ (λy cz H5=>_/\_) fr ex ey ba λz cz M2 f2 s2 hz=>⟨s2 _ _ (sT _ _ hy),f2,λb o e=>?_,by rw[aA,aE,l],λj y hj=>?_⟩
  .rw[bN (λz=>by rw[z,hD] at e;cases e)];exact s2 _ _ (sT _ _ (s _ _ e))
  .rcases Vc j zs.length with lt|ge
   .rw[fq lt] at hj;exact p j y hj
   .rw[dB ge] at hj;have:j-zs.length=0:=by have:=(aF.mp hj).1;simp only[aE] at this;omega
    rw[this] at hj;rw[show j=i by omega];cases hj;exact hz
section
open PySem.W
inductive MV (H:Hp) (Q:VK):Aac->Prop
 |mk {a:aq} {A:Aab} (h:H a=some (.tup (A.map V.str))) (o:Fv A) (u:Up A) (q:∀M,bc H M->Q (.bl true) M):MV H Q [.ref a]
def XJ:Sp:=λvs H Q _=>MV H Q vs
inductive IV (H:Hp) (Q:VK):Aac->Prop
 |mk {i:Int} (h1:1<=i) (h9:i<=1000000000) (q:∀M,bc H M->Q (.bl true) M):IV H Q [.int i]
def XM:Sp:=λvs H Q _=>IV H Q vs
inductive Sn (H:Hp) (Q:VK):Aac->Prop
 |mk {r:aq} {p:oi} (h:oS H r p) (o:gW p) (c:jd p) (q:∀M,bc H M->Q (.bl true) M):Sn H Q [.ref r]
def XN:Sp:=λvs H Q _=>Sn H Q vs
def FF (h:1<=us.length):gO us (some 1) none=us.drop 1:=by unfold gO;rw[show((1:Int))=((1:Nat):Int) by omega,ju,jD,show min 1 us.length=1 by omega,fQ ς]
def all_true {α:Type}(l:List α):(l.map λ_=>true).all id=true:=by rw[Eu];intro b hb;obtain⟨_,_,rfl⟩:=br.mp hb;rfl
def IW {H}{A}(h:H a=some (.tup (A.map V.str))):Tells H (a+1) (.tuple (fE A)) (.ref a):=eP.mpr ⟨a,_,rfl,aW (c_ a),h,gR A⟩
def IY (F:gX K "is_crew" "is_crew" Ih f fd) (T:Txt mg) (DN:Df P w K mg base 1 "is_name" ["thing"] (yq lK)):cG P w K mg base fK 2 f fd ["thing"] XJ:=by
 exists scC;obtain⟨tm,hMC⟩:=T.MC;refine⟨_,az (gI (PW.pt (Fz (ib (pU (bj XF rfl T.Rv dY (ae (pC 0) (ae (nY (v:=.ty "tuple") rfl T.tuple bO rfl) aj))))) (pK (ib (XH (oK qw) (oK qw) aH (bj mw rfl T.len bY (ae (pC 0) aj)) (l_ (v:=.int 4) rfl hMC ⟨tm,rfl⟩)))))) dJ cj) (az (gI (ib (pU (bj XG rfl T.all uq (ae (gm (N:=["name"]) (g:=d_ 0) (tc:=lF) (te:=o_ (yq lK) E0 (dF (vC 0) gk)) rfl (Cj K (pC 0)) (cY.closed rfl) (λ_ _ _=>aM (i:=0) (Z0 _)) (λ_ _ _=>eD) (λ_ _ _=>pD DN hr (ae (pC 0) aj))) aj)))) dJ cj) (aO (bK (bj XG rfl T.all uq (ae (gm (N:=["name","behind"]) (g:=pT 2 (gC (d_ 0) (gC (d_ 1) gN))) (tc:=lF) (te:=oH (rLs λi j=>.bl (decide (i.cps.toList<j.cps.toList))) (vC 0) (vC 1)) rfl (piZ K rfl T.zip (ae (pC 0) (ae (gx qz (pC 0) (tI aH) jv) aj))) (cY.closed rfl) (λ_ _ _=>rY 2 (gY (aM (i:=0) WW) (gY (aM (i:=1) WW) rX))) (λ_ _ _=>eD) (λ_ _ _=>jt oLs (pC 0) (pC 1) (cO _))) aj))))),?_⟩;obtain @⟨a,A,h,o,u,q⟩:=h;have l1:=o.l1;have l4:=o.l4;have lA:(A.map V.str).length=A.length:=ah _;refine MT.mk (IW h) (.inr (.inr (.inr (.inl rfl)))) (kj.t h ?_);show Sm _ _ _ _ _ _ (.bl (decide ((1:Int)<=((A.map V.str).length:Int))));rw[aZ ω];show Ci _ _ (!decide (((A.map V.str).length:Int)<=4));rw[aZ ω];refine An.mk h λD hD=>Gi (λ_ v b=>v=.bl b) (λ_:Str=>true) (λU=>∃v,U=[v]) hD (OY h) kI ω ⟨_,rfl⟩ (λ_ _ _ _ _ e=>e) ?_ λys M s w pr=>?_
 .rintro U M x n Y ⟨v,rfl⟩ s rfl hn hy;refine Ir.mk (k:=0) (gU.mpr rfl) ((rP (o.ok n hn).1 (o.ok n hn).2.1).mono δ δ) λM2 s2=>hy _ _ _ ⟨_,rfl⟩ s2 ?_;rw[(o.ok n hn).2.2]
 rw[pairE pr] at w;refine IU.mk w ?_;rw[all_true];refine Fy.t (s _ _ h) (λz=>?_) λp M2 s2 w2 n2=>?_
 .have:=z.1;rw[show(some (1:Int))=some ((1:Nat):Int) from rfl,ju] at this;omega
 rw[FF ω] at w2;have h2:=(s.trans s2) _ _ h;refine ZiK.mk h2 w2 λD2 MW=>lcZ (n:=A.length-1) (λ_ z=>z=.bl true) (λU=>∃v w,U=[v,w]) MW h2 w2 ω (by rw[cK];omega) (.inr (by rw[cK];omega)) ω ⟨_,_,rfl⟩ ?_ λzs M3 s3 w3 lz hz=>?_
 .rintro i U M T x y Y ⟨v,w,rfl⟩ ex ey hT hy;rw[y4] at ey;rw[aR] at ex ey;obtain⟨n,en,rfl⟩:=cw.mp ex;obtain⟨m,em,rfl⟩:=cw.mp ey;refine pT.mk hT rfl (hy _ _ _ ⟨_,_,rfl⟩ (bc.refl _) ?_);have hm:=(aF.mp em).1;have:=(Og.mp u) i (1+i) ω hm ω;rw[ag hm] at em;rw[ag ω] at en;cases en;cases em;exact dA V.bl this
 .have e:zs=(List.range zs.length).map λ_=>V.bl true:=Es ς λi h1 h2=>by rw[hz i _ (ag h1)];simp
  rw[show((List.range zs.length).map λ_=>V.bl true)=((List.range zs.length).map λ_=>true).map V.bl by rw[jh];rfl] at e;rw[e] at w3;refine IU.mk w3 ?_;rw[all_true];exact q M3 ((s.trans s2).trans s3)
def MX (F:gX K "is_measure" "is_measure" Ij f fd) (T:Txt mg) (DW:Df P w K mg base 1 "is_whole" ["thing"] (yq yg)):cG P w K mg base fK 2 f fd ["thing"] XM:=by exists aa5;obtain⟨th,hHV⟩:=T.LG;refine⟨_,aO (bK (xh (pD DW hr (ae (pC 0) aj)) (ma (XI (oK qw) (oK qw) aH (pC 0) (l_ (v:=.int 1000000000) rfl hHV ⟨th,rfl⟩))))),?_⟩;obtain @⟨i,h1,h9,q⟩:=h;refine Ir.mk (k:=0) (d:=.int i) (iw.mpr rfl) ((nv (bU (show i.natAbs<=1000000000 by omega) δ)).mono δ δ) λM s=>?_;show Sm _ _ _ _ _ _ (.bl (decide (1<=i)));rw[aZ h1];have:=q M s;rw[<-aZ h9] at this;exact this
def MY (F:gX K "is_piece" "is_piece" Cf f fd) (T:Txt mg) (DC:Df P w K mg base 2 "is_crew" ["thing"] XJ) (DM:Df P w K mg base 2 "is_measure" ["thing"] XM):cG P w K mg base fK 3 f fd ["thing"] XN:=by
 exists Ft;refine⟨_,az (gI (PW.pt (Fz (ib (pU (bj XF rfl T.Rv dY (ae (pC 0) (ae (nY (v:=.ty "tuple") rfl T.tuple bO rfl) aj))))) (pK (fG oN (bj mw rfl T.len bY (ae (pC 0) aj)) aH (cO _))))) dJ cj) (az (iP (pC 0) (rY 5 (gY (aM (i:=1) Ft.nd) (gY (aM (i:=2) Ft.nd rfl (Or.inr rfl)) (gY (aM (i:=3) Ft.nd) (gY (aM (i:=4) Ft.nd) (gY (aM (i:=5) Ft.nd) rX))))))) (az (gI (PW.pt (Fz (ib (pU (pD DC hr (ae (pC 1) aj)))) (Fz (ib (pU (pD DC hr (ae (pC 2) aj)))) (pK (fG oN (bj mw rfl T.len bY (ae (pC 1) aj)) (bj mw rfl T.len bY (ae (pC 2) aj)) (cO _)))))) dJ cj) (az (gI (pU (bj abv rfl T.any MU (ae (gm (N:=["name","second"]) (g:=d_ 0) (tc:=lF) (te:=oH (RH false) (vC 0) (vC 1)) rfl (Cj K (pC 1)) (cY.one (v:="name") (fr:="second") (j:=2) (nm:=aa6) rfl rfl rfl rfl) (λ_ _ _=>aM (i:=0) aa7) (λ_ _ _=>eD) (λ_ _ _=>jt oIn (pC 0) (pC 1) (by with_unfolding_all rfl))) aj))) dJ cj) (aO (bK (xh (pD DM hr (ae (pC 3) aj)) (xh (pD DM hr (ae (pC 4) aj)) (ma (pD DM hr (ae (pC 5) aj)))))))))),?_⟩;obtain @⟨r,p,h,o,c,q⟩:=h;obtain⟨kk,tl⟩:=ID h;obtain⟨a,b,h1,h2,h3⟩:=h;refine MT.mk tl (.inr (.inr (.inr (.inl rfl)))) (kj.t h1 (pT.mk h1 rfl (MV.mk h2 o.a c.a λM1 s1=>MV.mk (s1 _ _ h3) o.b c.b λM2 s2=>?_)));have oW:=s1.trans s2;refine kj.t (oW _ _ h2) (kj.t (oW _ _ h3) ?_);show Ci _ _ (!decide (((p.a.map V.str).length:Int)=((p.b.map V.str).length:Int)));rw[aZ (by rw[ah,ah,c.le])];refine An.mk (oW _ _ h2) λD hD=>Gi (λ_ v b=>v=.bl b) (λ_:Str=>false) (λU=>∃v,U=[v,some (.ref b)]) hD (OY (oW _ _ h2)) kI (by rw[ah];exact aB o.a.l4 δ) ⟨_,rfl⟩ (λ_ _ _ _ _ e=>e) ?_ λys M s w pr=>?_
 .rintro U M x n Y ⟨v,rfl⟩ s rfl hn hy;refine My.t ((oW.trans s) _ _ h3) rfl (rZ _) (hy _ _ _ ⟨_,rfl⟩ (bc.refl _) ?_);rw[aI δ,yv,bw (c.no n hn)]
 rw[pairE pr] at w;refine IU.mk w ?_;rw[show(p.a.map λ_=>false).any id=false by rw[A9];exact List.any_eq_false.mpr λ_ _ h=>nomatch h];exact IV.mk o.t1 o.t9 λM3 s3=>IV.mk o.o1 o.o9 λM4 s4=>IV.mk o.c1 o.c9 λM5 s5=>q M5 ((oW.trans s).trans (s3.trans (s4.trans s5)))
section
variable {k:Nat}{x m:Str}{C:aq}{ps:Aab}{sp:Sp}{o e:Expr}{es:List Expr}{ta:TE}{t:TA}{p apos pos:Pos}{pl:Sem Bool}
def pM (D:vE X.prog X.w X.K X.mg X.base k C m ps sp) (hr:eS k X.A) (he:PE X o ta) (ha:PA X (e::es) t) (GI:starEach (e::es) X.env=(false,eval e X.env)::starEach es X.env:=by rfl) (sC:(backTo pos (starEach es X.env)).any (·.1)=false:=by rfl) (ht:eval (.Call (.Attribute o m apos) (e::es) [] pos) X.env=(do
   let ov<-eval o X.env
   standAt apos.atName
   let(f,first)<-holding [ov] (getMethod ov m pl)
   callWith pos f first (backTo pos (starEach (e::es) X.env)) (backToKw pos (keywordEach [] X.env))):=by rfl):
  PE X (.Call (.Attribute o m apos) (e::es) [] pos) (va C m sp E0 ta t):=by
 obtain⟨c,f,fd,F,b,hm⟩:=D;exact RF (pl:=pl) he c hm F hr b wH ha GI sC ht
def yD (D:vE X.prog X.w X.K X.mg X.base k C m ps sp) (hr:eS k X.A) (he:PE X o ta) (ht:eval (.Call (.Attribute o m apos) [] [] pos) X.env=(do
   let ov<-eval o X.env
   standAt apos.atName
   let(f,first)<-holding [ov] (getMethod ov m pl)
   callWith pos f first (backTo pos (starEach [] X.env)) (backToKw pos (keywordEach [] X.env))):=by rfl):
  PE X (.Call (.Attribute o m apos) [] [] pos) (va C m sp E0 ta gk):=by
 obtain⟨c,f,fd,F,b,hm⟩:=D;exact Mw (pl:=pl) he c hm F hr b wH ht
inductive vn (C:aq) (H:Hp) (Q:VK):Aac->Prop
 |mk {cb sl ll cr sd:aq} {ws us:Aac} {n:Nat} {cC:List jN} {rows:Rows} {fV oq:List Cs} (c:fj C H cb sl ll fV oq) (l:fV.length<=900) (h1:H cr=some (.tup ws)\/H cr=some (.lst ws)) (p1:Paired (gZ H) ws cC) (h2:H sd=some (.tup us)\/H sd=some (.lst us)) (p2:Paired (vh H) us rows) (q:∀mI H',Kp3 cb sl ll H H'->H mI=none->fj C H' cb sl mI (fV++ [⟨cC,rows,n⟩]) []->Q .e_ H'):vn C H Q [.ref cb,.ref cr,.ref sd,.int n]
def yE (C:aq):Sp:=λvs H Q _=>vn C H Q vs
abbrev FG (C:aq) (H:Hp) (cb sl ll:aq) (fV:List Cs) (S:Cs) (Q:Hp->Prop):Prop:=∀mI H',Kp3 cb sl ll H H'->H mI=none->fj C H' cb sl mI (fV++ [S]) []->Q H'
inductive AE (C:aq) (H:Hp) (Q:VK):Aac->Prop
 |mk {cb sl ll r:aq} {p:oi} {S:Cs} {fV oq:List Cs} (c:fj C H cb sl ll (fV++ [S]) oq) (l:fV.length<=890) (ls:S.rows.length<=39) (h:oS H r p) (o:gW p) (cr:jd p) (q:FG C H cb sl ll (fV++ [S]) ⟨S.cC,S.rows++ [(S.n,p)],S.n+1⟩ (Q (.int S.n))):AE C H Q [.ref cb,.ref r]
def IZ (C:aq):Sp:=λvs H Q _=>AE C H Q vs
structure Lst (H:Hp) (C cb sl st cr sd dx:aq) (fs:List (Str×V)) (vs ws us:Aac) (S:Cs):Prop where
 i:H cb=some (.ins C dx fs)
 f:fs.lookup ("states":Str)=some (V.ref sl)
 l:H sl=some (.lst (vs++ [.ref st]))
 t:H st=some (.tup [.ref cr,.ref sd,.int S.n])
 c:H cr=some (.tup ws)
 pc:Paired (gZ H) ws S.cC
 d:H sd=some (.tup us)
 pd:Paired (vh H) us S.rows
 m:∀x:Str,x≠"states"->x≠"left"->fs.lookup x=none
def fj.lst {H}{cb sl ll:aq} (h:fj C H cb sl ll (fV++ [S]) oq):∃st cr sd dx fs vs ws us,Lst H C cb sl st cr sd dx fs vs ws us S:=by
 obtain⟨dx,vs,ws,c1,c2,c3,c4,c5,c6,c7,c8⟩:=h;obtain⟨vs',_,rfl,c7',st,cr,sd,ws0,us,rfl,e1,e2,Dc,e3,e4⟩:=sQ c7;refine⟨st,cr,sd,dx,_,vs',ws0,us,c1,rfl,c5,e1,e2,Dc,e3,e4,λx h1 h2=>?_⟩;have a1:(x==Str.ofString "states")=false:=by rw[fN];exact h1
 have a2:(x==Str.ofString "left")=false:=by rw[fN];exact h2
 simp only[List.lookup,a1,a2]
def Lst.same {H}{st}(h:Lst H C cb sl st cr sd dx fs vs ws us S) (s:bc H H'):Lst H' C cb sl st cr sd dx fs vs ws us S:=⟨s _ _ h.i,h.f,s _ _ h.l,s _ _ h.t,s _ _ h.c,acM h.pc λ_ _ z=>z.up λ_ _ e=>s _ _ e,s _ _ h.d,acM h.pd λ_ _ z=>z.up λ_ _ e=>s _ _ e,h.m⟩
def FG.same {C:aq}{H H1:Hp}{cb sl ll:aq}{fV:List Cs}{S:Cs}{Q:Hp->Prop}(s:bc H H1) (q:FG C H cb sl ll fV S Q):FG C H1 cb sl ll fV S Q:=λmI H' k' f' C'=>q mI H' (λb o n1 n2 n3 e=>k' _ _ n1 n2 n3 (s _ _ e)) (gq s f') C'
def So {α:Type}{l:List α}{a:α}{n:Nat}(h:l.length<=n):(l++ [a]).length<=n+1:=by rw[aA,aE];omega
def I0 (F:gX K "tell" "Club.tell" IG f fd) (T:Txt mg) (hM:∃t,mg "MOST_PIECES"=some (.int 40 t)) (CC:O4 K C) (DI:Df P w K mg base 3 "is_piece" ["thing"] XN) (DE:vE P w K mg base 1 C "enter" ["self","crew","standing","following"] (yE C)):cG P w K mg base fK 4 f fd ["self","piece"] (IZ C):=by
 exists yu;obtain⟨tk,hM⟩:=hM;refine⟨_,az (iP (bW kl (UM K (pC 0)) (sv Ao aH)) (rY 3 (gY (aM (i:=2) yu.nd) (gY (aM (i:=3) yu.nd) (gY (aM (i:=4) yu.nd) rX))))) (az (gI (ib (pU (pD DI hr (ae (pC 1) aj)))) dJ cj) (az (gI (fG (oK GS) (bj mw rfl T.len bY (ae (pC 3) aj)) (l_ (v:=.int 40) rfl hM ⟨_,rfl⟩) (cO _)) dJ cj) (az (eR (pM DE (hr.mono δ) (pC 0) (ae (pC 2) (ae (bQ Dx (pC 3) (jx (ae (jx (ae (pC 4) (ae (pC 1) aj))) aj))) (ae (bQ (oK fF) (pC 4) aH) aj))))) (aO (bK (pC 4)))))),?_⟩;cases h with
 | @mk cb sl ll r p S fV oq c l ls h o cp q=>obtain⟨st,cr,sd,dx,fs,vs,ws,us,L⟩:=c.lst;refine Am.mk L.i CC.c CC.ns L.f (rW.mk L.l (ni _ _) (pT.mk L.t rfl (Sn.mk h o cp λH1 s1=>?_)));have lus:=pW L.pd;refine kj.t (s1 _ _ L.d) (ifN (λz=>absurd z ω) (jr.mk (s1 _ _ L.i) (L.m _ δ δ) (cU.mk rfl λp1 M1 z1 w1 _=>cU.mk rfl λp2 M2 z2 w2 _=>?_)));have s2:=s1.trans (z1.trans z2);refine mS.any (s2 _ _ L.d) w2 ς (by rw[aE];omega) λx M3 z3 w3=>?_;have s3:=s2.trans z3;have L3:=L.same s3;refine vn.mk (n:=S.n+1) (rows:=S.rows++ [(S.n,p)]) (c.same s3) (aB (So l) δ) (.inl L3.c) L3.pc (.inl w3) (iI L3.pd ⟨p1,r,rfl,(z2.trans z3) _ _ w1,h.up (H':=M3) λb xs e=>s3 _ _ e⟩) ?_;exact q.same s3
end
def FH (F:gX K "enter" "Club.enter" Cn f fd) (T:Txt mg) (CC:O4 K C):cG P w K mg base fK 1 f fd ["self","crew","standing","following"] (yE C):=by
 exists MM;refine⟨_,az (eR (pV cI cJ pf (UM K (pC 0)) (ae (jx (ae (dO tH rfl T.tuple bO (ae (pC 1) aj)) (ae (dO tH rfl T.tuple bO (ae (pC 2) aj)) (ae (pC 3) aj)))) aj))) (aO (Bv (pC 0) (oU aj) rfl)),?_⟩;cases h with
 | @mk cb sl ll cr sd ws us n cC rows fV oq c l h1 p1 h2 p2 q=>
  obtain⟨dx,vs,xs,c1,c2,c3,c4,c5,c6,c7,c8⟩:=c;have lv:=pW c7;refine Am.mk c1 CC.c CC.ns rfl ⟨IsL.mk c5,oV.s h1 λcr' M0 s0 w0=>oV.s (h2.imp (s0 _ _) (s0 _ _)) λsd' M1 s1 w1=>cU.mk rfl λt M2 s2 w2 _=>?_⟩;have oX:=(s0.trans s1).trans s2;refine tF.mk (oX _ _ c5) ω λM3 k3 w3=>cU.mk rfl λl2 M4 s4 w4 n4=>⟨cb,C,dx,_,rfl,s4 _ _ (k3 _ _ c2.symm (oX _ _ c1)),CC.c,CC.nl,(show 2<1000 by decide),?_⟩;have kM:∀b xs,M2 b=some (.tup xs)->upd M4 cb (.ins C dx [("states",.ref sl),("left",.ref l2)]) b=some (.tup xs):=λb xs e=>by rw[bN (λz=>by rw[z,oX _ _ c1] at e;cases e)];exact s4 _ _ (k3 _ _ (λz=>by rw[z,oX _ _ c5] at e;cases e) e)
  have n1:l2≠cb:=λz=>by rw[z,k3 _ _ c2.symm (oX _ _ c1)] at n4;cases n4
  have n2:l2≠sl:=λz=>by rw[z,w3] at n4;cases n4
  refine q l2 _ (λb o n1 n2 _ e=>by rw[bN n1];exact s4 _ _ (k3 _ _ n2 (oX _ _ e))) ?_ ⟨dx,vs++ [.ref t],[],ba,c2,n1,n2,by rw[bN c2];exact s4 _ _ w3,by rw[bN n1];exact w4,iI (acM c7 λ_ _ z=>z.up λb xs e=>kM _ _ (oX _ _ e)) ⟨t,cr',sd',ws,us,rfl,kM _ _ w2,kM _ _ ((s1.trans s2) _ _ w0),acM p1 λ_ _ z=>z.up λb xs e=>kM _ _ (oX _ _ e),kM _ _ (s2 _ _ w1),acM p2 λ_ _ z=>z.up λb xs e=>kM _ _ (oX _ _ e)⟩,.nil⟩;cases e:H l2 with
  |none=>rfl
  |some o=>rw[k3 _ _ n2 (oX _ _ e)] at n4;cases n4
inductive Sq (H:Hp) (Q:VK):Aac->Prop
 |mk {cr:aq} {ws:Aac} {cC:List jN} (h:H cr=some (.tup ws)) (p:Paired (gZ H) ws cC) (l:cC.length<=100) (q:∀L J,bc H J->J L=some (.lst ((eO cC).map V.str))->Q (.ref L) J):Sq H Q [.ref cr]
def XO:Sp:=λvs H Q _=>Sq H Q vs
def MZ (F:gX K "names_of" "names_of" Sd f fd):cG P w K mg base fK 1 f fd ["crew"] XO:=by
 exists XA;refine⟨_,aO (bK (gm (N:=["rower"]) (g:=d_ 0) (tc:=lF) (te:=oH hE (vC 0) (tC (.int 0))) rfl (Cj K (pC 0)) (cY.closed rfl) (λ_ _ _=>aM (i:=0) abr) (λ_ _ _=>eD) (λ_ _ _=>bW eV (pC 0) aH))),?_⟩;cases h with
 | @mk cr ws cC h p l q=>refine An.mk h λL hL=>Gi (λ_ v b=>v=.str b) (λr:jN=>r.1) (λU=>∃v,U=[v]) hL (OY h) p (by rw[ee p];omega) ⟨_,rfl⟩ (λ_ _ _ _ _ e=>e) (λU M x a Y fr s r _ hy=>?_) λys M s h pr=>q L M s (by rw[show eO cC=cC.map (λr:jN=>r.1) from rfl,<-pairE pr];exact h);obtain⟨v,rfl⟩:=fr;obtain⟨u,rfl,h1⟩:=r;exact hE.mk (s _ _ h1) (a_ (j:=0) rfl) (hy _ _ _ ⟨_,rfl⟩ (bc.refl _) rfl)
inductive Sr (C:aq) (H:Hp) (Q:VK):Aac->Prop
 |mk {cb sl ll:aq} {k:Int} {S:Cs} {fV oq:List Cs} (c:fj C H cb sl ll (fV++ [S]) oq) (l:fV.length<=890) (ls:S.rows.length<=90) (y:MO S.rows k=true) (q:FG C H cb sl ll (fV++ [S]) ⟨S.cC,MN S.rows k,S.n⟩ (Q .e_)):Sr C H Q [.ref cb,.int k]
def XQ (C:aq):Sp:=λvs H Q _=>Sr C H Q vs
def M_ (F:gX K "strike" "Club.strike" R7 f fd) (CC:O4 K C) (DE:vE P w K mg base 1 C "enter" ["self","crew","standing","following"] (yE C)):cG P w K mg base fK 2 f fd ["self","number"] (XQ C):=by
 exists DJ;refine⟨_,az (iP (bW kl (UM K (pC 0)) (sv Ao aH)) (rY 3 (gY (aM (i:=2) DJ.nd) (gY (aM (i:=3) DJ.nd) (gY (aM (i:=4) DJ.nd) rX))))) (az (gI (fG RI (pC 1) (gm (N:=["other","piece"]) (g:=pT 2 (gC (d_ 0) (gC (d_ 1) gN))) (tc:=lF) (te:=vC 0) rfl (Cj K (pC 3)) (cY.closed rfl) (λ_ _ _=>rY 2 (gY (aM (i:=0) Xy) (gY (aM (i:=1) Xy) rX))) (λ_ _ _=>eD) (λ_ _ _=>pC 0)) rfl) dJ cj) (aO (eR (pM DE hr (pC 0) (ae (pC 2) (ae (gm (N:=["told","number"]) (g:=d_ 0) (tc:=nG (oH (Mz not) (oH hE (vC 0) (tC (.int 0))) (vC 1))) (te:=vC 0) rfl (Cj K (pC 3)) (cY.one (v:="told") (fr:="number") (j:=1) (nm:=abp) rfl rfl rfl rfl) (λ_ _ _=>aM (i:=0) abq) (λ_ _ _=>gK (fG oN (bW eV (pC 0) aH) (pC 1) (cO _))) (λ_ _ _=>pC 0)) (ae (pC 4) aj))))))),?_⟩;cases h with
 | @mk cb sl ll k S fV oq c l ls y q=>
  obtain⟨st,cr,sd,dx,fs,vs,ws,us,L⟩:=c.lst;have lus:=ee L.pd;refine Am.mk L.i CC.c CC.ns L.f (rW.mk L.l (ni _ _) (pT.mk L.t rfl (An.mk L.d λD hD=>Gi (λ_ v (b:Nat)=>v=.int b) (λx:Nat×oi=>x.1) (λU=>∃v v',U=[v,v']) hD (OY L.d) L.pd ω ⟨_,_,rfl⟩ (λ_ _ _ _ _ e=>e) ?_ ?_)))
  .rintro U M x a Y ⟨v,v',rfl⟩ s ⟨u,r,rfl,h1,h2⟩ _ hy;exact pT.mk (s _ _ h1) rfl (hy _ _ _ ⟨_,_,rfl⟩ (bc.refl _) rfl)
  intro ys M s1 hM pr;have ey:=pairE pr;rw[jh] at ey;rw[show ys=S.rows.map λx=>V.int x.1 from ey] at hM;refine My.l hM rfl (FD S.rows) ?_;rw[aJ rfl,MP,y];refine jr.mk (s1 _ _ L.i) (L.m _ δ δ) (An.mk (s1 _ _ L.d) λD2 MW=>Kn vh (λx:Nat×oi=>if(λx:Nat×oi=>!decide ((x.1:Int)=k)) x=true then some x else none) (λU=>∃v,U=[v,some (.int k)]) MW (OY (s1 _ _ L.d)) (L.same s1).pd ω ⟨_,rfl⟩ (λ_ _ _ _ t h=>h.up t) ?_ ?_)
  .rintro U M' x a N Y ⟨v,rfl⟩ s ⟨u,r,rfl,h1,h2⟩ _ hn hy;refine hE.mk (s _ _ h1) (a_ (j:=0) rfl) ?_;by_cases e:(a.1:Int)=k
   .rw[aI (by simp[e])] at hn;exact(ite_no (by simp[e]) (hn rfl _ _ ⟨_,rfl⟩ (bc.refl _)))
   .rw[aJ (by simp[e])] at hy;exact(ite_yes (by simp[e]) (hy _ _ _ _ rfl ⟨_,rfl⟩ (bc.refl _) ⟨u,r,rfl,s _ _ h1,h2.up λb xs e=>s _ _ e⟩))
  .intro ys M2 s2 hM2 pys;rw[fmF] at pys;have oX:=s1.trans s2;have L2:=L.same oX;refine vn.mk (c.same oX) (aB (So l) δ) (.inl L2.c) L2.pc (.inr hM2) pys ?_;exact q.same oX
inductive kJ (C:aq) {α:Type} (R:Hp->V->α->Prop) (f:Cs->List α) (H:Hp) (Q:VK):Aac->Prop
 |mk {cb sl ll:aq} {S:Cs} {fV oq:List Cs} (c:fj C H cb sl ll (fV++ [S]) oq) (q:∀l us M,bc H M->M l=some (.lst us)->H l=none->Paired (R M) us (f S)->Q (.ref l) M):kJ C R f H Q [.ref cb]
def xj (C:aq):Sp:=λvs H Q _=>kJ C gZ Cs.cC H Q vs
def Cr (C:aq):Sp:=λvs H Q _=>kJ C vh Cs.rows H Q vs
def I_ (F:gX K "rowers" "Club.rowers" IH f fd) (T:Txt mg) (CC:O4 K C):cG P w K mg base fK 1 f fd ["self"] (xj C):=by exists Sb;refine⟨_,aO (bK (dO Fx rfl T.list eA (ae (bW eV (bW kl (UM K (pC 0)) (sv Ao aH)) aH) aj))),?_⟩;obtain⟨c,q⟩:=h;obtain⟨st,cr,sd,dx,fs,vs,ws,us,L⟩:=c.lst;exact Am.mk L.i CC.c CC.ns L.f (rW.mk L.l (ni _ _) (hE.mk L.t (a_ (j:=0) rfl) (yk.t L.c λl M s hl n=>q l _ M s hl n (L.same s).pc)))
def Na (F:gX K "pieces" "Club.pieces" R8 f fd) (T:Txt mg) (CC:O4 K C):cG P w K mg base fK 1 f fd ["self"] (Cr C):=by exists Xz;refine⟨_,aO (bK (dO Fx rfl T.list eA (ae (bW eV (bW kl (UM K (pC 0)) (sv Ao aH)) aH) aj))),?_⟩;obtain⟨c,q⟩:=h;obtain⟨st,cr,sd,dx,fs,vs,ws,us,L⟩:=c.lst;exact Am.mk L.i CC.c CC.ns L.f (rW.mk L.l (ni _ _) (hE.mk L.t (a_ (j:=1) rfl) (yk.t L.d λl M s hl n=>q l _ M s hl n (L.same s).pd)))
inductive Ss (H:Hp) (Q:VK):Aac->Prop
 |mk {p:aq} {ws:Aac} {cC:List jN} (h:H p=some (.tup ws)) (pr:Paired (gZ H) ws cC) (l:cC.length<64) (q:∀l M us,bc H M->M l=some (.lst us)->H l=none->Paired (gZ M) us (km cC)->Q (.ref l) M):Ss H Q [.ref p]
def abw:Aac->Hp->VK->Prop:=λvs H Q=>Ss H Q vs
def abx:dR X (.builtin "sorted") abw:=uU.wk λx H Q q=>by obtain @⟨p0,ws,cC,h,pr,l,q⟩:=q;obtain⟨L0,eL,kL,hL⟩:=DY pr;refine⟨_,L0,rfl,.inl (.inl (by rw[<-eL];exact h)),by rw[<-ah (f:=λe:rT (Str×Str×Int)=>e.key),kL];exact l,hL,λp L1 hp p1 Xo=>q p _ _ (bZ hp _) ba hp ?_⟩;have hcr:L1.map (·.key)=km _:=vm (l:=cC) (by rw[<-kL];exact p1.map _) (Bf.mpr Xo);rw[<-hcr];exact acM (DZ λe he=>hL e (p1.mem_iff.mp he)) λ_ _ z=>z.up λb xs e=>bZ hp _ _ _ e
def uh:okN "both"/\pR (.str "both")=true:=by unfold okN;decide+kernel
structure Nb (r:jN):Prop where
 n:okN r.1
 s:r.2.1="both"
 w1:1<=r.2.2
 w6:r.2.2<=1000000
def Nb.fit (h:Nb r):QT (IM r):=(O7 (r:=r) ⟨h.n,by rw[h.s];exact uh.1,by have:=h.w1;have:=h.w6;omega⟩).mono δ δ
def Nb.row (h:Nb r):uV (IM r)=true:=by show(lK (.str r.1)&&(pR (.str r.2.1)&&(decide (1<=r.2.2)&&decide (r.2.2<=1000000))))=true;rw[h.n.2.2,h.s,uh.2,aZ h.w1,aZ h.w6];rfl
inductive D4 (C:aq) (H:Hp) (Q:VK):Aac->Prop
 |mk {cb sl ll a:aq} {r:jN} {S:Cs} {fV oq:List Cs} (c:fj C H cb sl ll (fV++ [S]) oq) (l:fV.length<=890) (h:H a=some (.tup [.str r.1,.str r.2.1,.int r.2.2])) (g:Nb r) (no:r.1∉eO S.cC) (l7:S.cC.length<=7) (q:FG C H cb sl ll (fV++ [S]) ⟨km (S.cC++ [r]),S.rows,S.n⟩ (Q .e_)):D4 C H Q [.ref cb,.ref a]
def Ja (C:aq):Sp:=λvs H Q _=>D4 C H Q vs
def Jb (F:gX K "come" "Club.come" IF f fd) (T:Txt mg) (CC:O4 K C) (DR:Df P w K mg base 3 "is_rower" ["thing"] (yq uV)) (DN:Df P w K mg base 1 "names_of" ["crew"] XO) (DE:vE P w K mg base 1 C "enter" ["self","crew","standing","following"] (yE C)):cG P w K mg base fK 4 f fd ["self","rower"] (Ja C):=by
 exists yz;have vo:=hr.mono (j:=1) δ;obtain⟨tk,hM⟩:=T.MR;refine⟨_,az (iP (bW kl (UM K (pC 0)) (sv Ao aH)) (rY 3 (gY (aM (i:=2) yz.nd) (gY (aM (i:=3) yz.nd) (gY (aM (i:=4) yz.nd) rX))))) (az (gI (ib (pU (pD DR hr (ae (pC 1) aj)))) dJ cj) (az (gI (fG oIn (bW eV (pC 1) aH) (pD DN vo (ae (pC 2) aj)) rfl) dJ cj) (az (gI (fG (oK GS) (bj mw rfl T.len bY (ae (pC 2) aj)) (l_ (v:=.int 8) rfl hM ⟨_,rfl⟩) (cO _)) dJ cj) (aO (eR (pM DE vo (pC 0) (ae (bj abx rfl T.sorted ik (ae (bQ Dx (pC 2) (jx (ae (pC 1) aj))) aj)) (ae (pC 3) (ae (pC 4) aj))))))))),?_⟩;cases h with
 | @mk cb sl ll a r S fV oq c l h g no l7 q=>obtain⟨st,cr,sd,dx,fs,vs,ws,us,L⟩:=c.lst;obtain⟨kk,tl⟩:=(yC _ r ⟨a,rfl,h⟩).one;have lw:=ee L.pc;refine Am.mk L.i CC.c CC.ns L.f (rW.mk L.l (ni _ _) (pT.mk L.t rfl (Ir.mk tl g.fit λH1 s1=>?_)));rw[g.row];refine hE.mk (s1 _ _ h) (a_ (j:=0) rfl) (Sq.mk (L.same s1).c (L.same s1).pc ω λN H2 s2 hN=>My.l hN rfl (rZ _) ?_);rw[aI δ,yv,bw no];have oW:=s1.trans s2;refine kj.t (oW _ _ L.c) (ifN (λz=>absurd z ω) (jr.mk (oW _ _ L.i) (L.m _ δ δ) (cU.mk rfl λp1 M1 z1 w1 _=>?_)));have s3:=oW.trans z1;refine mS.any (s3 _ _ L.c) w1 ς (by rw[aE];omega) λx M3 z3 w3=>?_;have s4:=s3.trans z3;refine Ss.mk w3 (iI (L.same s4).pc ⟨a,rfl,s4 _ _ h⟩) (by rw[aA,aE];omega) λy M4 us4 z4 w4 _ p4=>?_;have s5:=s4.trans z4;have L5:=L.same s5;refine vn.mk (c.same s5) (aB (So l) δ) (.inr w4) p4 (.inl L5.d) L5.pd ?_;exact q.same s5
inductive TnI (H:Hp) (Q:VK):Aac->Prop
 |mk {r1 r2:aq} {p q:oi} (h1:oS H r1 p) (h2:oS H r2 q) (o1:gW p) (o2:gW q) (c:jd p) (z:∀v H',bc H H'->Xr H' v (mH p q)->Q v H'):TnI H Q [.ref r1,.ref r2]
def TnC:Sp:=λvs H Q _=>TnI H Q vs
def TnC.old (vs:Aac) (H:Hp) (Q:VK) (E:XK) (h:TnC vs H Q E):TnP vs H Q E:=by obtain⟨h1,h2,o1,o2,c,z⟩:=h;exact TnT.mk ⟨h1,h2,o1,o2,c⟩ λv r H' s t d=>z v H' s (by rw[<-IJ c t];exact d)
inductive Nc (C:aq) (H:Hp) (Q:VK):Aac->Prop
 |mk {cb sl ll:aq} {S:Cs} {fV oq:List Cs} (c:fj C H cb sl ll (fV++ [S]) oq) (ok:∀x∈S.rows,gW x.2/\jd x.2) (n:S.rows.length<=31) (q:∀l ws M,bc H M->M l=some (.lst ws)->H l=none->Paired (nK M) ws (Ax S.rows)->Q (.ref l) M):Nc C H Q [.ref cb]
def Nd (C:aq):Sp:=λvs H Q _=>Nc C H Q vs
def r9 {H}(t:Tk H H') (h:Paired (nK H) ws L):Paired (nK H') ws L:=acM h λ_ _ z=>z.up t
def AF {H}(h:H l=some (.lst xs)) (k:cX l H H'):Tk H H':=λb ys e=>k _ _ (λz=>by rw[z,h] at e;cases e) e
def Jc {i:Nat}(h:i<us.length):gO us (some ((i:Int)+1)) none=us.drop (i+1):=by unfold gO;rw[show((i:Int)+1)=((i+1:Nat):Int) by omega,ju,jD,show min (i+1) us.length=i+1 by omega,fQ ς]
def Nf (F:gX K "trials" "Club.trials" R9 f fd) (T:Txt mg) (DP:vE P w K mg base 1 C "pieces" ["self"] (Cr C)) (DT:Df P w K mg base 4 "trial_or_none" ["one","other"] TnC):cG P w K mg base fK 5 f fd ["self"] (Nd C):=by
 exists qV;refine⟨_,az (iQ (i:=1) qV.nd (oU aj)) (az (iQ (i:=2) qV.nd (yD DP (hr.mono δ) (pC 0))) (az (gy bz rfl (piE K rfl T.enum (ae (pC 2) aj)) (rY 2 (gY (aM (i:=3) qV.nd) (gY (rY 2 (gY (aM (i:=4) qV.nd) (gY (aM (i:=5) qV.nd) rX))) rX))) (aO (gy bz rfl (om K (gx qz (pC 2) (tI (bQ (oK fF) (pC 3) aH)) jv)) (rY 2 (gY (aM (i:=6) qV.nd) (gY (aM (i:=7) qV.nd) rX))) (az (iQ (i:=8) qV.nd (pD DT hr (ae (pC 5) (ae (pC 7) aj)))) (aO (gI (fG Dz (pC 8) jK (cO _)) (aO (eR (pV cI cJ pf (pC 1) (ae (jx (ae (pC 4) (ae (pC 6) (ae (pC 8) aj)))) aj)))) cj)))))) (aO (bK (pC 1))))),?_⟩;cases h with
 | @mk cb sl ll S fV oq c ok n q=>
  obtain⟨_,_,_,dx,fs,_,_,_,L⟩:=c.lst;refine cU.mk rfl λl M1 s1 w1 n1=>jr.mk (s1 _ _ L.i) (L.m _ δ δ) (kJ.mk (c.same s1) λl2 us M2 s2 w2 n2 pr=>Xa.mk w2 ?_);have ZV:=s2 _ _ w1;have n12:l2≠l:=λz=>by rw[z,w1] at n2;cases n2
  have lus:=ee pr;clear c L;have key:∀{H:Hp},cX l M2 H->H l2=some (.lst us):=λk=>k _ _ n12 w2;refine Im (λi U M=>(∃v3 v4 v5 v6 v7 v8,U=[some (.ref cb),some (.ref l),some (.ref l2),v3,v4,v5,v6,v7,v8])/\cX l M2 M/\∃ws L,M l=some (.lst ws)/\Paired (nK M) ws L/\L++Ax (S.rows.drop i)=Ax S.rows/\L.length<=31*i) ⟨⟨_,_,_,_,_,_,rfl⟩,cX.refl _ _,[],[],ZV,.nil,rfl,bH _⟩ (λi U M h=>key h.2.1) ?_ ?_
  .rintro i x U M D T M3 hx ⟨⟨v3,v4,v5,v6,v7,v8,rfl⟩,kp,ws,L,hL,pw,eL,lL⟩ ⟨nx,_⟩ s3 hT _;obtain⟨a,ea,u,r,rfl,hu,hP⟩:=je pr i _ hx;have hi:=(aF.mp ea).1;obtain rfl:S.rows[i]=a:=bf ((ag hi).symm.trans ea);have tk:Tk M2 M3:=λb xs e=>s3 _ _ (AF ZV kp _ _ e);have k3:cX l M2 M3:=kp.trans s3.keep;have dp:S.rows.drop i=S.rows[i]::S.rows.drop (i+1):=fu hi;rw[dp] at eL;have okp:=ok _ (dD hi);refine pT.mk hT rfl (pT.mk (tk _ _ hu) rfl (Fy.l (key k3) λp M4 s4 hp np=>mZ.mk hp ?_));rw[Jc ω] at hp;have nq:p≠l:=λz=>by rw[z,s3 _ _ hL] at np;cases np
   have XR:Tk M2 M4:=λb xs e=>s4 _ _ (tk _ _ e);have l4:=s4 _ _ (s3 _ _ hL);refine lN (xs:=us.drop (i+1)) (λm U M=>(∃v6 v7 v8,U=[some (.ref cb),some (.ref l),some (.ref l2),some (.int i),some (.int S.rows[i].1),some (.ref r),v6,v7,v8])/\cX l M4 M/\∃ws L,M l=some (.lst ws)/\Paired (nK M) ws L/\(L++Kp S.rows[i] ((S.rows.drop (i+1)).drop m))++Ax (S.rows.drop (i+1))=Ax S.rows/\L.length<=31*i+m) ⟨⟨_,_,_,rfl⟩,cX.refl _ _,ws,L,l4,r9 (λb xs e=>s4 _ _ (s3 _ _ e)) pw,by rw[qa];exact eL,ω⟩ (λm U M h=>h.2.1 _ _ nq hp) ?_ ?_
   .rintro m x U M5 D hx ⟨⟨v6,v7,v8,rfl⟩,k5,ws,L,hL,pw,eL,lL⟩ ⟨nx,_⟩;rw[y4] at hx;obtain⟨b,eb,u',r',rfl,hu',mG⟩:=je pr _ _ hx;have hj:=(aF.mp eb).1;obtain rfl:S.rows[i+1+m]=b:=bf ((ag hj).symm.trans eb);have tk5:Tk M2 M5:=λb xs e=>AF l4 k5 _ _ (XR _ _ e);have okq:=ok _ (dD hj);refine pT.mk (tk5 _ _ hu') rfl (TnI.mk (hP.up tk5) (mG.up tk5) okp.1 okq.1 okp.2 λv M6 s6 dv=>?_);have dd:(S.rows.drop (i+1)).drop m=S.rows[i+1+m]::(S.rows.drop (i+1)).drop (m+1):=by rw[List.drop_drop,List.drop_drop,show i+1+(m+1)=(i+1+m)+1 by omega];exact fu hj
    rw[dd] at eL;have e2:((L++Co S.rows[i].1 S.rows[i+1+m].1 (mH S.rows[i].2 S.rows[i+1+m].2))++Kp S.rows[i] ((S.rows.drop (i+1)).drop (m+1)))++Ax (S.rows.drop (i+1))=Ax S.rows:=by rw[<-eL,qa L];rfl
    have k6:cX l M4 M6:=k5.trans s6.keep;cases et:mH S.rows[i].2 S.rows[i+1+m].2 with
    |none=>rw[et] at dv e2;cases dv;rw[show Co S.rows[i].1 S.rows[i+1+m].1 none=[] from rfl,dU] at e2;exact nx _ _ ⟨⟨_,_,_,rfl⟩,k6,ws,L,s6 _ _ hL,r9 s6.vd pw,e2,ω⟩
    |some t=>
     rw[et] at dv e2;obtain⟨y,rfl,ty⟩:=dv;refine⟨IsL.mk (s6 _ _ hL),cU.mk rfl λz M7 s7 w7 _=>tF.mk (s7 _ _ (s6 _ _ hL)) ?_ λM8 k8 w8=>nx _ _ ⟨⟨_,_,_,rfl⟩,(k6.trans s7.keep).trans k8,_,L++ [(S.rows[i].1,S.rows[i+1+m].1,t)],w8,?_,e2,?_⟩⟩
     .have:=ee pw;omega
     .have t8:=AF (s7 _ _ (s6 _ _ hL)) k8;exact xg ⟨z,y,rfl,t8 _ _ w7,(ty.same s7).up t8⟩ (r9 (λb xs e=>t8 _ _ (s7 _ _ (s6 _ _ e))) pw)
     .rw[aA,aE];omega
   .rintro U M5 ⟨⟨v6,v7,v8,rfl⟩,k5,ws,L,hL,pw,eL,lL⟩;have ll:(us.drop (i+1)).length=(S.rows.drop (i+1)).length:=by rw[cK,cK,lus]
    rw[ll,List.drop_length,show Kp S.rows[i] []=[] from rfl,dU] at eL;refine nx _ _ ⟨⟨_,_,_,_,_,_,rfl⟩,(k3.trans s4.keep).trans k5,ws,L,hL,pw,eL,?_⟩;rw[ll,cK] at lL;omega
  .rintro U M ⟨⟨v3,v4,v5,v6,v7,v8,rfl⟩,kp,ws,L,hL,pw,eL,_⟩;rw[lus,List.drop_length,show Ax []=[] from rfl,dU] at eL;rw[eL] at pw;refine q l ws M (λb o e=>kp _ _ (λz=>by rw[z,n1] at e;cases e) (s2 _ _ (s1 _ _ e))) hL n1 pw
def As.old (vs:Aac) (H:Hp) (Q:VK) (E:XK) (h:As vs H Q E):Cd vs H Q E:=by obtain⟨d,hc,h1,h2,q⟩:=h;exact⟨_,_,_,rfl,d,hc,h1,h2,q⟩
def Z8.old (vs:Aac) (H:Hp) (Q:VK) (E:XK) (h:Z8 vs H Q E):Ib vs H Q E:=by obtain⟨h,q⟩:=h;exact⟨_,_,rfl,h,q⟩
def fj.keep {H}{cb sl ll:aq}(h:fj C H cb sl ll fV oq) (k:cX x H H') (n1:x≠cb) (n2:x≠sl) (n3:x≠ll) (t:Tk H H'):fj C H' cb sl ll fV oq:=by obtain⟨dx,vs,ws,c1,c2,c3,c4,c5,c6,c7,c8⟩:=h;exact⟨dx,vs,ws,k _ _ n1.symm c1,c2,c3,c4,k _ _ n2.symm c5,k _ _ n3.symm c6,acM c7 λ_ _ z=>z.up t,acM c8 λ_ _ z=>z.up t⟩
structure Wk (C k:aq) (M2 M:Hp) (cb sl yY ll:aq) (c:Int) (fV:List Cs) (S:Cs):Prop where
 d:dE M k c
 cl:fj C M cb sl ll (fV++ [S]) []
 kp:∀y o,y≠k->y≠cb->y≠sl->y≠yY->M2 y=some o->M y=some o
 o:ll=yY\/M2 ll=none
 n1:k≠cb
 n2:k≠sl
 n3:k≠yY
 dk:∃o,M2 k=some o
def Wk.nl {M2 M:Hp}{cb sl yY ll:aq} (w:Wk C k M2 M cb sl yY ll c fV S):k≠ll:=λz=>by
 obtain⟨o,h⟩:=w.dk;rcases w.o with e|e
 .exact w.n3 (z.trans e)
 .rw[<-z,h] at e;cases e
def Wk.Ct {M2 M M':Hp}{cb sl yY ll mI:aq} (w:Wk C k M2 M cb sl yY ll c fV S) (k':Kp3 cb sl ll M M') (f:M mI=none) (cl:fj C M' cb sl mI (fV++ [S]++ [S']) []):Wk C k M2 M' cb sl yY mI c (fV++ [S]) S':=by
 obtain⟨dx,vs,ws,c1,c2,c3,c4,c5,c6,_⟩:=id w.cl;have nl:=w.nl;refine⟨w.d.keep λo e=>k' _ _ w.n1 w.n2 nl e,cl,λy o h0 h1 h2 h3 e=>k' _ _ h1 h2 (λz=>?_) (w.kp _ _ h0 h1 h2 h3 e),?_,w.n1,w.n2,w.n3,w.dk⟩
 .rcases w.o with q|q
  .exact h3 (z.trans q)
  .rw[<-z,e] at q;cases q
 .by_cases h3:mI=yY
  .exact .inl h3
  cases e:M2 mI with
  |none=>exact .inr rfl
  |some o=>
   have h0:mI≠k:=λz=>by obtain⟨o,h⟩:=w.d.some;rw[z,h] at f;cases f
   have h1:mI≠cb:=λz=>by rw[z,c1] at f;cases f
   have h2:mI≠sl:=λz=>by rw[z,c5] at f;cases f
   rw[w.kp _ _ h0 h1 h2 h3 e] at f;cases f
def Wk.Jd {M2 M M':Hp}{cb sl yY ll:aq} (w:Wk C k M2 M cb sl yY ll c fV S) (q:cX k M M') (d:dE M' k c'):Wk C k M2 M' cb sl yY ll c' fV S:=⟨d,w.cl.keep q w.n1 w.n2 w.nl (nI w.d q),λy o h0 h1 h2 h3 e=>q _ _ h0 (w.kp _ _ h0 h1 h2 h3 e),w.o,w.n1,w.n2,w.n3,w.dk⟩
def Wk.same {M2 M M':Hp}{cb sl yY ll:aq} (w:Wk C k M2 M cb sl yY ll c fV S) (s:bc M M'):Wk C k M2 M' cb sl yY ll c fV S:=w.Jd s.keep (iz w.d s)
def Wk.tk {M2 M:Hp}{cb sl yY ll:aq} (w:Wk C k M2 M cb sl yY ll c fV S) (cl0:∃oY oq,fj C M2 cb sl yY oY oq) (d0:dE M2 k c0):Tk M2 M:=λb xs e=>by obtain⟨_,_,dx,_,_,c1,_,_,_,c5,c6,_⟩:=cl0;exact w.kp _ _ (λz=>Ar d0 xs (z▸e)) (λz=>by rw[z,c1] at e;cases e) (λz=>by rw[z,c5] at e;cases e) (λz=>by rw[z,c6] at e;cases e) e
def sR (l:List jN):km (km l)=km l:=(vm (KI _) (jX l)).symm
def Cu {α:Type}{l:List α}{f:α->Nat}{x:α}(h:l.map f=List.range l.length) (e:f x=l.length):(l++ [x]).map f=List.range (l++ [x]).length:=by rw[bC,h,aA,aE,List.range_succ];show _++ [f x]=_;rw[e]
def O8 {α β:Type}{f:β->α}{B:α->β->Prop}:∀{as:List α}{bs:List β},Paired (λa b=>f b=a/\B a b) as bs->bs.map f=as
 |_,_,.nil=>rfl
 |_,_,.cons h t=>by rw[bG,h.1,O8 t]
def O9 {α β:Type}{A:α->β->Prop}{B:β->Prop}:∀{as:List α}{bs:List β},Paired (λa b=>A a b/\B b) as bs->∀b∈bs,B b
 |_,_,.cons h t,b,hb=>by
  cases hb with
  |head=>exact h.2
  |tail _ hb=>exact O9 t b hb
abbrev sCb:Stmt:=top 73
def aby:List (Str×NameKind):=[(".0",.local),("name",.local),("_law_weight",.globalImplicit),("deck",.free)]
def abz:(["name","deck"]:Aab).Nodup:=η
def XS:(["one"]:Aab).Nodup:=η
def DfC (P:aQ) (w:bg) (K:Φ) (mg:Aae) (base:Heap) (C:aq):Prop:=∃f fd,Mk K C f/\cG P w K mg base fK 1 f fd ["self"] (II C)/\Binds K fd ["self"] []/\mg "Club"=some (.ref C)
inductive MkI (C:aq) (H:Hp) (Q:VK):Prop
 |mk (q:∀cb sl ll M,bc H M->H cb=none->H sl=none->H ll=none->fj C M cb sl ll ([]++ [⟨[],[],0⟩]) []->Q (.ref cb) M):MkI C H Q
def O_ (D:DfC X.prog X.w X.K X.mg X.base C) (hr:eS 2 X.A) (hg:Gl X "Club":=by rfl):PE X (.Call (.Name "Club" p) [] [] pos) (λU H Q=>MkI C H Q):=by
 obtain⟨f,fd,M,F,b,m⟩:=D;refine(G5 M F hr hg m b .nil wH).wk λU H Q q=>?_;intro cb dx hcb hdx nd;have old:∀{y:aq},upd (upd H dx (.own cb)) cb (.ins C dx []) y=none->H y=none:=λ{y} e=>by
  by_cases z1:y=cb
  .rw[z1,ba] at e;cases e
  .rw[bN z1] at e;by_cases z2:y=dx
   .rw[z2,ba] at e;cases e
   .rw[bN z2] at e;exact e
 refine⟨cb,dx,rfl,ba,λsl ll M k ns nl c=>⟨rfl,?_⟩⟩;obtain⟨q⟩:=q;exact q cb sl ll M (λy o e=>k y o (λz=>by rw[z,hcb] at e;cases e) (by rw[bN (λz=>by rw[z,hcb] at e;cases e),bN (λz=>by rw[z,hdx] at e;cases e)];exact e)) hcb (old ns) (old nl) c
def FI:bx ["deck","club","rower","names","turn","pieces"] ["deck"] (aP sCb):={}
structure ko (S:Cs):Prop where
 nd:(eO S.cC).Nodup
 l3:3<=S.cC.length
 l6:S.cC.length<=6
 rw:∀r∈S.cC,Nb r
 so:km S.cC=S.cC
 r1:1<=S.rows.length
 r6:S.rows.length<=6
 num:S.rows.map (·.1)=List.range S.rows.length
 n:S.n=S.rows.length
 pc:∀x∈S.rows,gW x.2/\jd x.2
inductive CbI (C:aq) (H:Hp) (Q:VK):Aac->Prop
 |mk {k:aq} {c:Int} (d:dE H k c) (hc:c<=1000) (q:∀(cb sl ll:aq) (S:Cs) (fV:List Cs) (H':Hp),cX k H H'->H cb=none->fj C H' cb sl ll (fV++ [S]) []->ko S->fV.length<=20->Q (.ref cb) H'):CbI C H Q [.ref k]
def CbC (C:aq):Sp:=λvs H Q _=>CbI C H Q vs
def XT (F:gX K "_law_club" "_law_club" sCb f fd) (T:Txt mg) (DK:DfC P w K mg base C) (DP:Df P w K mg base 1 "_law_pick" ["deck","many"] As) (DN:Df P w K mg base 2 "_law_names" ["deck","many"] Iu) (DW:Df P w K mg base 2 "_law_weight" ["deck"] WtC) (DPc:Df P w K mg base 2 "_law_piece" ["deck","names"] PcC) (DX:Df P w K mg base 2 "_law_exchanged" ["deck","piece"] LxC) (DO:vE P w K mg base 4 C "come" ["self","rower"] (Ja C)) (DT:vE P w K mg base 4 C "tell" ["self","piece"] (IZ C)) (DR:vE P w K mg base 1 C "rowers" ["self"] (xj C)) (DS:vE P w K mg base 1 C "pieces" ["self"] (Cr C)):cG P w K mg base fK 5 f fd ["deck"] (CbC C):=by
 exists FI;have Gm:=hr.mono (j:=4) δ;have AG:=hr.mono (j:=2) δ;have vo:=hr.mono (j:=1) δ;refine⟨_,az (iQ (i:=1) FI.nd (O_ DK AG)) (az (gy bz rfl (om K (gm (N:=["name","deck"]) (g:=d_ 0) (tc:=lF) (te:=u_ (dF (vC 0) (dF (tC (.str "both")) (dF (o_ WtC E0 (dF (vC 1) gk)) gk)))) rfl (om K (pD DN AG (ae (pC 0) (ae (bQ (oK fF) aH (pD DP vo (ae (pC 0) (ae aH aj)))) aj)))) (cY.one (v:="name") (fr:="deck") (j:=0) (nm:=aby) rfl rfl rfl rfl) (λ_ _ _=>aM (i:=0) abz) (λ_ _ _=>eD) (λ_ _ _=>jx (ae (pC 0) (ae f_ (ae (pD DW AG (ae (pC 1) aj)) aj)))))) (aM (i:=2) FI.nd) (aO (eR (pM DO Gm (pC 1) (ae (pC 2) aj))))) (az (ny (i0:=3) (N:=["one"]) (g:=d_ 0) (tc:=lF) (te:=oH hE (vC 0) (tC (.int 0))) FI.nd rfl (Or.inl rfl) rfl (om K (yD DR vo (pC 1))) (cY.closed rfl) (λ_ _ _=>aM (i:=0) XS) (λ_ _ _=>eD) (λ_ _ _=>bW eV (pC 0) aH)) (az (eR (pM DT Gm (pC 1) (ae (pD DPc AG (ae (pC 0) (ae (pC 3) aj))) aj))) (az (gy bz rfl (UN rfl T.range (ae (pD DP vo (ae (pC 0) (ae aH aj))) aj)) (aM (i:=4) FI.nd) (az (iQ (i:=5) FI.nd (yD DS vo (pC 1))) (aO (eR (pM DT Gm (pC 1) (ae (pD DX AG (ae (pC 0) (ae (bW eV (bW kl (pC 5) (pD DP vo (ae (pC 0) (ae (bj mw rfl T.len bY (ae (pC 5) aj)) aj)))) aH) aj))) aj)))))) (aO (bK (pC 1))))))),?_⟩;cases h with
 | @mk k c d hc q=>
  refine MkI.mk λcb sl ll M1 s1 n1 n2 n3 c1=>xi.mk (iz d s1) ω δ δ λr c2 M2 k2 d2 u2 g2 l2=>Cm.mk d2 ω ω ω λp ns c3 M3 k3 d3 u3 np p0 hp lns ok nd=>mZ.mk hp λD hD=>?_;refine lcN (m:=4) (β:=jN) gZ (λn r=>r.1=n/\Nb r) (λU=>∃v,U=[v,some (.ref k)]) hD (nJ.of d3 ω) (abf np hp) kI (by rw[ah];omega) ⟨_,rfl⟩ (λ_ _ _ _ t h=>h.up t) ?_ ?_
  .rintro U M x a i Y ⟨v,rfl⟩ kM dM hi rfl ha hy;obtain⟨c',dc,lc⟩:=dM.out;exact WtI.mk dc ω λr c2 M2 k2 d2 u2 r1 r6=>cU.mk rfl λt M3 s3 w3 _=>hy _ (a,"both",r) _ _ ⟨_,rfl⟩ (k2.trans s3.keep) ⟨c2,iz d2 s3,ω,ω⟩ ⟨t,rfl,w3⟩ ⟨rfl,⟨ok a ha,rfl,r1,r6⟩⟩
  intro us rows M4 k4 d4' h4 pr pz;obtain⟨c4,d4,u4⟩:=d4'.out;refine mZ.mk h4 ?_;have m1:cX k M1 M4:=(k2.trans k3).trans k4;have nk:∀{y},H y=none->k≠y:=λe z=>by obtain⟨o,h⟩:=d.some;rw[z,e] at h;cases h
  have ZW:Tk M1 M4:=nI (iz d s1) m1;have W0:Wk C k M4 M4 cb sl ll ll c4 [] ⟨[],[],0⟩:=⟨d4,c1.keep m1 (nk n1) (nk n2) (nk n3) ZW,λ_ _ _ _ _ _ e=>e,.inl rfl,nk n1,nk n2,nk n3,d4.some⟩;have nms:rows.map (·.1)=ns:=O8 pz;have gd:∀r∈rows,Nb r:=O9 pz;have lr:rows.length=ns.length:=by rw[<-nms,ah]
  obtain⟨dx,_,_,q1,_,_,_,q5,q6,_⟩:=id c1;have m3:=k2.trans k3;have nD:D≠k/\D≠cb/\D≠sl/\D≠ll:=⟨(d3.ne hD).symm,(λz=>by rw[z,m3 _ _ (nk n1).symm q1] at hD;cases hD),(λz=>by rw[z,m3 _ _ (nk n2).symm q5] at hD;cases hD),(λz=>by rw[z,m3 _ _ (nk n3).symm q6] at hD;cases hD)⟩;refine lN (λi U M=>(∃v,U=[some (.ref k),some (.ref cb),v,none,none,none])/\∃mI fV cC,Wk C k M4 M cb sl ll mI c4 fV ⟨cC,[],0⟩/\fV.length=i/\cC.Perm (rows.take i)/\km cC=cC) ⟨⟨_,rfl⟩,ll,[],[],W0,rfl,.nil,(js []).eq_nil⟩ (λi U M ⟨_,_,_,_,W,_⟩=>W.kp _ _ nD.1 nD.2.1 nD.2.2.1 nD.2.2.2 h4) ?_ ?_
  .rintro i x U M D' hx ⟨⟨v,rfl⟩,mI,fV,cC,W,ls,pm,so⟩ ⟨nx,_⟩;obtain⟨r,er,ra,rfl,hra⟩:=je pr i x hx;have hi:=(aF.mp er).1;obtain⟨_,_,_,dx,fs,_,_,_,L⟩:=W.cl.lst;have e0:rows=rows.take i++r::rows.drop (i+1):=by rw[show r=rows[i] from bf (er.symm.trans (ag hi)),<-fu hi,fw]
   have lp:=pm.length_eq;rw[b_] at lp;refine jr.mk L.i (L.m _ δ δ) (D4.mk W.cl ω (W.tk ⟨_,_,W0.cl⟩ d4 _ _ hra) (gd r (aY er)) (λz=>?_) (by show cC.length<=7;omega) λNg M' k' f' c'=>nx _ _ ⟨⟨_,rfl⟩,Ng,_,_,W.Ct k' f' c',by rw[aA,ls];rfl,?_,sR _⟩)
   .rw[<-nms,e0,bC,fg] at nd;exact nd.2.2 _ ((pm.map _).mem_iff.mp z) _ (dr (bT)) rfl
   .rw[bM,er];exact(js _).trans (pm.append_right _)
  .rintro U M5 ⟨⟨v,rfl⟩,mI,fV,cC,W,ls,pm,so⟩;rw[ee pr,bX] at pm;rw[ee pr] at ls;obtain⟨_,_,_,dx,fs,_,_,_,L⟩:=W.cl.lst;have lc:=pm.length_eq;refine jr.mk L.i (L.m _ δ δ) (kJ.mk W.cl λl6 us6 M6 s6 w6 _ p6=>mZ.mk w6 λD7 XU=>?_);refine Gi (λ_ v b=>v=.str b) (λr:jN=>r.1) (λU=>∃v,U=[v]) XU (wa w6) p6 (by rw[ee p6];show cC.length<=1000;omega) ⟨_,rfl⟩ (λ_ _ _ _ _ e=>e) (λU M x a Y fr s r _ hy=>?_) λys M7 s7 w7 p7=>?_
   .obtain⟨v,rfl⟩:=fr;obtain⟨u,rfl,h1⟩:=r;exact hE.mk (s _ _ h1) (a_ (j:=0) rfl) (hy _ _ _ ⟨_,rfl⟩ (bc.refl _) rfl)
   rw[pairE p7] at w7;have W7:=(W.same s6).same s7;have L7:=(L.same s6).same s7;have pn:=pm.map (·.1);rw[nms] at pn;have nD7:D7≠k:=λz=>by obtain⟨o,h⟩:=(W.same s6).d.some;rw[<-z,XU] at h;cases h
   refine jr.mk L7.i (L7.m _ δ δ) (PcI.mk W7.d ω nD7 w7 (by rw[pn.length_eq];omega) (by rw[pn.length_eq];omega) (λn hn=>ok n (pn.mem_iff.mp hn)) (pn.nodup_iff.mpr nd) λr8 pc c8 M8 k8 d8 u8 h8 o8 cr8=>?_);have W8:=W7.Jd k8 d8;refine AE.mk W8.cl (by rw[ls];omega) (bH _) h8 o8 cr8 λll9 M9 k9 f9 c9=>?_;have W9:=W8.Ct k9 f9 c9;refine xi.mk W9.d ω δ δ λOD c10 M10 k10 d10 u10 g10 l10=>OV.mk g10 ω ?_;have W10:=W9.Jd k10 d10;clear W W7 W8 W9 L L7;refine Dy (λi U M=>(∃v2 v3 v4 v5,U=[some (.ref k),some (.ref cb),v2,v3,v4,v5])/\∃mI fV R c,Wk C k M4 M cb sl ll mI c fV ⟨cC,R,R.length⟩/\fV.length<=10+i/\R.length=i+1/\R.map (·.1)=List.range R.length/\(∀x∈R,gW x.2/\jd x.2)/\c<=200+c10+12*i) ⟨⟨_,_,_,_,rfl⟩,ll9,_,[(0,pc)],c10,W10,?_,rfl,rfl,?_,ω⟩ ?_ ?_
   .rw[aA,aE];omega
   .intro x hx;rw[aK.mp hx];exact⟨o8,cr8⟩
   .rintro i U M D' hi ⟨⟨v2,v3,v4,v5,rfl⟩,mI,oY,R,c',W,ls',lR,nR,oR,ze⟩ ⟨nx,_⟩;obtain⟨_,_,_,dx,fs,_,_,_,L⟩:=W.cl.lst;refine jr.mk L.i (L.m _ δ δ) (kJ.mk W.cl λlp up M1 s1 w1 np1 p1=>?_);have lu:up.length=R.length:=ee p1;have W1:=W.same s1;have nk1:lp≠k:=(W.d.ne np1).symm;refine jr.mk (s1 _ _ L.i) (L.m _ δ δ) (kj.l w1 (xi.mk W1.d ω (by rw[lu];omega) (by rw[lu];omega) λr2 c2 M2 k2 d2 u2 g2 l2=>?_));have W2:=W1.Jd k2 d2;obtain⟨AG,ea⟩:=Ic g2 l2;obtain⟨x,ex,u,r,eu,hu,hP⟩:=je p1 r2.toNat _ (ag AG);rw[eu] at ea;have t12:=nI W1.d k2;have ox:=oR x (aY ex);refine rW.mk (k2 _ _ nk1 w1) ea (hE.mk (t12 _ _ hu) (a_ (j:=1) rfl) (LxI.mk d2 ω (hP.up t12) ox.1 ox.2 λr3 p3 m y c3 M3 k3 d3 u3 h3 o3 x3=>?_));have W3:=W2.Jd k3 d3;refine AE.mk W3.cl ω (by show R.length<=39;omega) h3 o3 (x3.o7 ox.2) λll4 M4 k4 f4 c4=>nx _ _ ⟨⟨_,_,_,_,rfl⟩,ll4,oY++ [⟨cC,R,R.length⟩],R++ [(R.length,p3)],c3,?_,?_,?_,Cu nR rfl,?_,?_⟩
    .have W4:=W3.Ct k4 f4 c4;rw[aA,aE];exact W4
    .rw[aA,aE];omega
    .rw[aA,aE];omega
    .intro x hx;rcases aX.mp hx with hx|hx
     .exact oR x hx
     .rw[aK.mp hx];exact⟨o3,x3.o7 ox.2⟩
    .omega
   .rintro U M ⟨⟨v2,v3,v4,v5,rfl⟩,mI,oY,R,c',W,ls',lR,nR,oR,ze⟩;refine q cb sl mI ⟨cC,R,R.length⟩ oY M (λy o n e=>?_) n1 W.cl ⟨?_,?_,?_,λr hr=>gd r (pm.mem_iff.mp hr),so,?_,?_,nR,rfl,oR⟩ ω
    .refine W.kp _ _ n (λz=>by rw[z,n1] at e;cases e) (λz=>by rw[z,n2] at e;cases e) (λz=>by rw[z,n3] at e;cases e) (m1 _ _ n (s1 _ _ e))
    .exact pn.nodup_iff.mpr nd
    .show 3<=cC.length;omega
    .show cC.length<=6;omega
    .show 1<=R.length;omega
    .show R.length<=6;omega
end
def yF {H}(h:H l=some (.lst xs)) (k:cX l H H'):Tk H H':=λb ys e=>k _ _ (λz=>by rw[z,h] at e;cases e) e
inductive AH (H:Hp) (Q:VK):V->V->Prop
 |mk {a:aq} {y v:V} (g:jc H a y (some v)) (q:Q v H):AH H Q (.ref a) y
def abA (td ty:TE):TE:=λU H Q=>td U H λx H1=>ty U H1 λy H2=>AH H2 Q x y
inductive wg (f:Bool->Bool) (H:Hp) (Q:VK) (y:V):V->Prop
 |mk {a:aq} {o:Option V} (g:jc H a y o) (q:Q (.bl (f o.isSome)) H):wg f H Q y (.ref a)
def Su (f:Bool->Bool):R2:=λy x H Q=>wg f H Q y x
inductive yG (v:V) (H:Hp) (Q:Hp->Prop):V->V->Prop
 |k {a:aq} {kvs:List (Key×V)} {k:Key} (e:H a=some (.dK kvs)) (l:kvs.length<=10000) (q:∀M,cX a H M->M a=some (.dK (putK kvs k v))->Q M):yG v H Q (.ref a) (kV k)
 |t {a b:aq} {kvs:List (List Key×V)} {k:List Key} (e:H a=some (.dT kvs)) (eb:H b=some (.tup (k.map kV))) (l:kvs.length<=10000) (q:∀M,cX a H M->M a=some (.dT (putK kvs k v))->Q M):yG v H Q (.ref a) (.ref b)
def abB (td ty tv:TE):TS:=λD U H=>tv U H λv H1=>td U H1 λx H2=>ty U H2 λy H3=>yG v H3 (λM=>D.nx U M) x y
def yG.old {H}(h:yG v H Q x y):∃a M,x=.ref a/\zI H a y v M/\Q M:=by
 cases h with
 |k e l q=>exact⟨_,_,rfl,zI.k e (bU l δ),q _ (cX.at _) ba⟩
 |t e eb l q=>exact⟨_,_,rfl,zI.t e eb (bU l δ),q _ (cX.at _) ba⟩
inductive D1I (b:Bool) (H:Hp) (Q:VK):V->Prop
 |mk {z:Str} (q:∀p M,bc H M->M p=some (.dT [([.inr z,.inl b],.bl true)])->H p=none->Q (.ref p) M):D1I b H Q (.str z)
def kD1 (i:Nat) (b:Bool):TE:=λU H Q=>vC i U H λx H1=>D1I b H1 Q x
inductive FJ (H:Hp) (Q:Bool->Hp->Prop):V->Prop
 |mk {a:aq} {xs:Aac} (h:H a=some (.lst xs)) (q:Q (!xs.isEmpty) H):FJ H Q (.ref a)
def abC (i:Nat):TT:=λU H Q=>vC i U H λx H1=>FJ H1 Q x
inductive Sv (tb:TE) (U:St) (H:Hp) (Q:VK):V->Prop
 |mk {c d:Bool} (h:∀Q':VK,Q' (.bl d) H->tb U H Q') (q:Q (.bl (c||d)) H):Sv tb U H Q (.bl c)
def abD (ta tb:TE):TE:=λU H Q=>ta U H λx H1=>Sv tb U H1 Q x
section
variable {o i a b:Expr}{td ty tv ta tb:TE}{pos pos':Pos}{rest:List Expr}{value:Expr}
def FK (hu:X.A.units+1<cLine):gT X (compareOp .In) (Su id):=λac s U H x y v u Q I rx ry q=>by
 cases q with
 | @mk a o g q=>obtain rfl:u=Value.ref a:=ry;exact aaH hu I g rx λs3 I3=>⟨.bl o.isSome,H,I3,rfl,q⟩
def Sw (hu:X.A.units+1<cLine):gT X (compareOp .NotIn) (Su not):=λac s U H x y v u Q I rx ry q=>by
 cases q with
 | @mk a o g q=>obtain rfl:u=Value.ref a:=ry;exact Lr hu I g rx λs3 I3=>⟨.bl (!o.isSome),H,I3,rfl,q⟩
def xk (hu:X.A.units+1<cLine) (ho:PE X o td) (hi:PE X i ty) (hs:V1 i):PE X (.Subscript o i pos) (abA td ty):=by
 intro ac s U H Q I h;refine Ls PySem.F.slot_dict_getitem.lookup hs (dq (ho ac s U H _ I h) λu s1 ⟨x,H1,I1,rx,q1⟩=>dq (hi ac s1 U H1 _ I1 q1) λiv s2 ⟨y,H2,I2,ry,q2⟩=>?_);cases q2 with
 | @mk a y v g q=>obtain rfl:u=Value.ref a:=rx;exact⟨zJ I2 g,EU hu I2 g ry λw' s3 I3 Bm=>⟨v,H2,I3,Bm,q⟩⟩
def D5 (hu:X.A.units+1<cLine) (ho:PE X o td) (hi:PE X i ty) (hv:PE X value tv) (hs:swapsWith value (some (.Subscript o i pos')) pos.line X.env=pure false):
  PS X (.Assign [.Subscript o i pos'] value pos) (abB td ty tv):=by
 intro ac s U H D I h;refine wpAny_Assign_Subscript (dq (hv ac s U H _ I h) λr s1 ⟨v,H1,I1,rv,q1⟩=>dq (ho ac s1 U H1 _ I1 q1) λu s2 ⟨x,H2,I2,rx,q2⟩=>dq (hi ac s2 U H2 _ I2 q2) λiv s3 ⟨y,H3,I3,ry,q⟩=>?_) hs;obtain⟨a,H4,ex,g,q3⟩:=q.old;subst ex;obtain rfl:u=Value.ref a:=rx;exact EV hu I3 g ry rv λs4 I4=>⟨U,H4,I4,q3⟩
def abE {i:Nat} (hu:X.A.units+1<cLine) (hk:PE X k (u_ (dF (vC i) (dF (tC (.bl bb)) gk)))) (hv:PE X v (tC (.bl true))):PE X (.Dict [some k] [v] pos) (kD1 i bb):=(zN hu hk hv (λ_ _ _ _ imp h=>imp _ _ h) (λU H Q Q' imp h=>vC.imp h λx h=>by
  obtain⟨l,q⟩:=h;exact⟨l,λp M s e n=>imp _ _ (q p M s e n)⟩)).wk λU H Q h=>by
  intro p hp;have h:vC i U H (λx H1=>D1I bb H1 Q x):=h;show vC i U (upd H p (.dT [])) _;unfold vC at*;cases e:gv U i with
  |none=>rw[e] at h;cases h
  |some x=>rw[e] at h;obtain @⟨z,q⟩:=h;have s1:=bZ hp (.dT []);have w1:upd H p (.dT []) p=some (.dT []):=ba;refine cU.mk rfl λb M s2 w2 n2=>⟨[.inr z,.inl bb],b,rfl,s2 _ _ w1,w2,?_⟩;exact q p _ (λy o e=>by rw[bN (λz=>by rw[z,hp] at e;cases e)];exact s2 _ _ (s1 _ _ e)) ba hp
def D6 (i:Nat) (h:PE X (.Name x p) (vC i)):PT X (.Name x p) (abC i):=(GY h (λ_=>rfl)).wk λU H Q q=>vC.imp q λx q=>by
 cases q with
 |mk h q=>exact⟨_,.inl ⟨_,gj.of h,rfl⟩,q⟩
def XW (ha:PE X a ta) (hb:PE X (.BoolOp .Or (b::rest) pos) tb):PE X (.BoolOp .Or (a::b::rest) pos) (abD ta tb):=by
 intro ac s U H Q I h;refine BoolOp_or (dq (ha ac s U H _ I h) λv s1 ⟨x,H1,I1,r1,q⟩=>?_);cases q with
 | @mk c d hd q=>
  cases r1;refine bB ?_;cases c with
  |true=>exact⟨.bl true,H1,I1,rfl,q⟩
  |false=>exact hb ac s1 U H1 Q I1 (hd Q q)
end
def dcW (Iv:Nat->List (Key×V)->St->Hp->Prop) (hD:H1 D=none) (hn:xs.length<=1000) (wk:Walk J H1 xs) (h0:Iv 0 [] kr (upd H1 D (.dK []))) (hS:∀i kvs U M,Iv i kvs U M->bc H1 M) (hs:∀i x kvs U M,xs[i]?=some x->M D=some (.dK kvs)->Iv i kvs U M->g x U M λcz H3=>te cz H3 λy H5=>tv cz H5 λz H6=>∃k,y=kV k/\H6 D=some (.dK kvs)/\Iv (i+1) (putK kvs k z) cz (upd H6 D (.dK (putK kvs k z)))) (hd:∀kvs U M,M D=some (.dK kvs)->Iv xs.length kvs U M->Q (.ref D) M):Q7 J g lF te tv kr H1 Q D:=by
 refine Q8 (n:=xs.length) (f:=λi=>xs.getD i .e_) Iv hD hn h0 (λi kvs U M hi hy iv=>⟨(wk M (hS _ _ _ _ iv) i).1,λl=>⟨((wk M (hS _ _ _ _ iv) i).2 l).1,λx H' y=>?_⟩⟩) (λi kvs U M hi hy iv=>?_) hd
 .obtain⟨e,e2⟩:=((wk M (hS _ _ _ _ iv) i).2 l).2 x H' y;exact⟨e,by rw[aw,e2];rfl⟩
 .exact hs i _ kvs U M (by rw[aw,ag hi];rfl) hy iv
inductive Nh (H:Hp) (Q:VK):Aac->Prop
 |mk {a:aq} {kvs:List (Key×V)} (h:H a=some (.dK kvs)) (q:Q (.int kvs.length) H):Nh H Q [.ref a]
def XX:Aac->Hp->VK->Prop:=λvs H Q=>Nh H Q vs
inductive D8 (H:Hp) (Q:VK):Aac->Prop
 |mk {a:aq} {kvs:List (Key×V)} (h:H a=some (.dK kvs)) (q:∀l M,bc H M->M l=some (.lst (kvs.map λkv=>kV kv.1))->H l=none->Q (.ref l) M):D8 H Q [.ref a]
def XY:Aac->Hp->VK->Prop:=λvs H Q=>D8 H Q vs
def Pa:dR X (.builtin "len") XX:=E3.wk λx H Q q=>by
 cases q with
 |mk h q=>exact⟨_,_,rfl,h,q⟩
def Pb (hc:X.calm=true:=by rfl):dR X (.type "list") XY:=(BS hc).wk λx H Q q=>by
 cases q with
 |mk h q=>exact⟨_,_,rfl,h,λl hl=>q l _ (bZ hl _) ba hl⟩
def qW {α γ:Type}{f:α->List γ}{n:Nat}(h:∀a,(f a).length<=n):∀l:List α,(l.flatMap f).length<=l.length*n
 | []=>bH _
 |a::l=>by have:=qW h l;have:=h a;rw[List.flatMap_cons,aA,bE,Nat.add_mul,Nat.one_mul];omega
def XZ {K:Φ}{J:It}{g:TG}{Gf:TI}{g2:TG}{E8:TT}{te:TE}{kr:St}{H1:Hp}{Q:VK}{D p:aq}{α β γ:Type}{xs ys:Aac}{as:List α}{bs:List β}{R:V->α->Prop}{R2:V->β->Prop}(S:Hp->V->γ->Prop) (F:α->β->Option γ) (Fr:St->Prop) (UW:V->St->Prop) (hD:H1 D=none) (wk:Walk J H1 xs) (pr:Paired R xs as) (hp:H1 p=some (.lst ys)) (p2:Paired R2 ys bs) (hn:(xs.length+1)*ys.length<=90000) (f0:Fr kr) (hS:∀H H' v b,Tk H H'->S H v b->S H' v b) (fr:∀x U,UW x U->Fr U) (st:∀U M x a (Z:It->St->Hp->Prop),Fr U->bc H1 M->R x a->a∈as->(∀cz,UW x cz->Z (Gb K p) cz M)->g x U M λcz H3=>Gf cz H3 λJ2 H4=>Z J2 cz H4) (qb:∀U M x a y b (N:St->Hp->Prop) (Y:V->St->Hp->Prop),UW x U->bc H1 M->R x a->a∈as->R2 y b->b∈bs->(F a b=none->∀cz M2,UW x cz->bc M M2->N cz M2)->(∀v c cz M2,F a b=some c->UW x cz->bc M M2->S M2 v c->Y v cz M2)-> g2 y U M λcz H3=>E8 cz H3 λt H4=>if t=true then te cz H4 λv H5=>Y v cz H5 else N cz H4) (q:∀zs M,bc H1 M->M D=some (.lst zs)->Paired (S M) zs (as.flatMap λa=>bs.filterMap (F a))->Q (.ref D) M):HA J g lF Gf g2 E8 te kr H1 Q D:=by
 have lx:=ee pr;have ly:=ee p2;refine HD (n:=xs.length) (f:=λi=>xs.getD i .e_) (λi zs U M=>Fr U/\bc H1 M/\Paired (S M) zs ((as.take i).flatMap λa=>bs.filterMap (F a))) ⟨f0,bZ hD _,.nil⟩ (λi zs U M hi hy ⟨_,s,_⟩=>⟨(wk M s i).1,λl=>⟨((wk M s i).2 l).1,λx H' y=>?_⟩⟩) ?_ ?_
 .obtain⟨e,e2⟩:=((wk M s i).2 l).2 x H' y;exact⟨e,by rw[aw,e2];rfl⟩
 .rintro i zs U M hi hy ⟨f1,s,pz⟩;have ex:xs[i]?=some (xs.getD i .e_):=by rw[aw,ag hi];rfl
  obtain⟨a,ea,r⟩:=je pr i _ ex;generalize xs.getD i .e_=x at*;have ha:=aY ea;have tk:as.take (i+1)=as.take i++ [a]:=by rw[bM,ea];rfl
  have lz:zs.length+ys.length<=100000:=by have h1:=qW (f:=λa=>bs.filterMap (F a)) (n:=ys.length) (λa=>by rw[ly];exact gL _ _) (as.take i);rw[<-ee pz,b_] at h1;have h2:min i as.length*ys.length<=xs.length*ys.length:=vL _ ω;rw[Nat.add_mul,Nat.one_mul] at hn;omega
  refine st U M x a (λJ2 cz H4=>LI D J2 g2 E8 te cz H4 _) f1 s r ha λcz f2=>LM (n:=ys.length) (f:=λj=>ys.getD j .e_) (λj UX de M'=>UW x de/\bc H1 M'/\Paired (S M') UX (((as.take i).flatMap λa=>bs.filterMap (F a))++(bs.take j).filterMap (F a))) zs lz hy ⟨f2,s,by simpa using pz⟩ (λj UX de M' hj hz ⟨_,s',_⟩=>⟨(wa (K:=K) hp M' s' j).1,λl=>⟨((wa hp M' s' j).2 l).1,λy H' yy=>?_⟩⟩) ?_ ?_
  .obtain⟨e,e2⟩:=((wa hp M' s' j).2 l).2 y H' yy;exact⟨e,by rw[aw,e2];rfl⟩
  .rintro j UX de M' hj hz ⟨f3,s',X0⟩;have ey:ys[j]?=some (ys.getD j .e_):=by rw[aw,ag hj];rfl
   obtain⟨b,eb,r2⟩:=je p2 j _ ey;generalize ys.getD j .e_=y at*;have tk2:bs.take (j+1)=bs.take j++ [b]:=by rw[bM,eb];rfl
   refine qb de M' x a y b (λcz H4=>_/\_) (λy cz H5=>_/\_) f3 s' r ha r2 (aY eb) (λe cz M2 f4 s2=>?_) λv c cz M2 e f4 s2 hc=>?_
   .refine⟨s2 _ _ hz,f4,s'.trans s2,?_⟩;rw[tk2,iC,show[b].filterMap (F a)=[] by simp[e],dU];exact sP (λ_ _=>hS _ _ _ _ s2.vd) X0
   .have tD:Tk M2 (upd M2 D (.lst (UX++ [v]))):=λd xs e=>by rw[bN (λz=>by rw[z,s2 _ _ hz] at e;cases e)];exact e
    refine⟨s2 _ _ hz,f4,λd o e=>?_,?_⟩
    .rw[bN (λz=>by rw[z,hD] at e;cases e)];exact s2 _ _ (s' _ _ e)
    .rw[tk2,iC,show[b].filterMap (F a)=[c] by simp[e],<-qa];exact xg (hS _ _ _ _ tD hc) (sP (λ_ _ h=>hS _ _ _ _ tD (hS _ _ _ _ s2.vd h)) X0)
  .rintro UX de M' hz ⟨f3,s',X0⟩;refine⟨UX,hz,fr _ _ f3,s',?_⟩;rw[tk,List.flatMap_append];rw[show bs.take ys.length=bs by rw[ly,bX]] at X0;simpa using X0
 .rintro zs U M hy ⟨_,s,pz⟩;rw[show as.take xs.length=as by rw[lx,bX]] at pz;exact q zs M s hy pz
inductive SlA (H:Hp) (Q:VK) (lo hi:Option Int):V->Prop
 |mk {a:aq} {xs:Aac} (h:H a=some (.tup xs)) (q:∀p M,bc H M->M p=some (.tup (gO xs lo hi))->Q (.ref p) M):SlA H Q lo hi (.ref a)
def rSA:V->Option Int->Option Int->Hp->VK->Prop:=λx lo hi H Q=>SlA H Q lo hi x
inductive LtT (H:Hp) (Q:VK):V->V->Prop
 |mk {a b:aq} {ss zs:Aab} (h1:H a=some (.tup (ss.map V.str))) (h2:H b=some (.tup (zs.map V.str))) (q:Q (.bl (mQ ss zs)) H):LtT H Q (.ref a) (.ref b)
def abF:R2:=λx y H Q=>LtT H Q x y
def Je {lo hi:Option Int}(h:gF xs.length 0 lo=0/\gF xs.length xs.length hi=xs.length):gO xs lo hi=xs:=by unfold gO;rw[h.1,h.2];simp
inductive Sx (H:Hp) (Q:VK):Aac->Prop
 |mk {p:aq} {ns:List Int} (h:H p=some (.lst (ns.map V.int))) (q:∀i,Q (.int i) H):Sx H Q [.ref p]
def abG:Aac->Hp->VK->Prop:=λvs H Q=>Sx H Q vs
inductive Sy (H:Hp) (Q:VK):Aac->Prop
 |mk {v d:aq} {kvs:List (Key×V)} {ns:List Int} (hv:H v=some (zV v d)) (hd:H d=some (.dK kvs)) (e:kvs.map (·.2)=ns.map V.int) (q:∀i,Q (.int i) H):Sy H Q [.ref v]
def X3:Aac->Hp->VK->Prop:=λvs H Q=>Sy H Q vs
inductive Jf (H:Hp) (Q:VK):V->Aac->Prop
 |mk {d:aq} {kvs:List (Key×V)} (h:H d=some (.dK kvs)) (q:∀v M,bc H M->M v=some (zV v d)->Q (.ref v) M):Jf H Q (.ref d) []
def X4:V->Aac->Hp->VK->Prop:=λx vs H Q=>Jf H Q x vs
inductive Sz (H:Hp) (Q:VK):Aac->Prop
 |mk {p:aq} {ts:List OJ} (h:H p=some (.lst (ts.map λt=>V.ref t.t))) (n:ts≠[]) (ok:∀t∈ts,HE H t) (q:∀t∈ts,Q (.ref t.t) H):Sz H Q [.ref p]
def X5:Aac->Hp->VK->Prop:=λvs H Q=>Sz H Q vs
def slA:Uy X rSA:=λac s U H x v vl vu lo hi sl Q I rx hs pl pu q=>by
 cases q with
 |mk h q=>exact Lq ac s U H _ v vl vu lo hi sl Q I rx hs pl pu ⟨_,_,rfl,.inl (.inl h),λe=>q _ _ (bc.refl _) (by rw[Je e];exact h),λ_ p hp=>q p _ (bZ hp _) ba⟩
def abH (hu:X.A.units+64<cLine):gT X (compareOp .Lt) abF:=(LO hu).wk λx y H Q q=>by
 cases q with
 |mk h1 h2 q=>exact⟨_,_,_,_,rfl,rfl,.inl (.inl h1),.inl (.inl h2),q⟩
def abI (hc:X.calm=true:=by rfl):dR X (.builtin "sum") abG:=(wW hc).wk λx H Q q=>by
 cases q with
 |mk h q=>exact⟨_,_,rfl,gj.of h,q _⟩
def X6 (hc:X.calm=true:=by rfl):dR X (.builtin "sum") X3:=(Fc hc).wk λx H Q q=>by
 cases q with
 |mk hv hd e q=>exact⟨_,_,_,_,rfl,hv,hd,e,q _⟩
def SA:Kd X "dict.values" X4:=λac s U H x xs v us Q I r1 r2 q=>by
 cases q with
 |mk h q=>exact Fb ac s U H _ _ v us Q I r1 r2 ⟨_,_,rfl,rfl,h,λv hv=>q v _ (bZ hv _) ba⟩
def X7 (hu:X.A.units+64<cLine) (hc:X.calm=true:=by rfl):dR X (.builtin "min") X5:=(E_ hc hu).wk λx H Q q=>by
 cases q with
 |mk h n ok q=>exact⟨_,_,rfl,gj.of h,n,ok,λt ht _=>q t ht⟩
inductive EtK (K:Φ) (R:It->Hp->Prop) (H:Hp):Aac->Prop
 |mk {a:aq} {xs:Aac} (h:H a=some (.tup xs)) (q:R (Ite K a) H):EtK K R H [.ref a]
def iET (K:Φ) (ta:TA):TI:=λU H R=>ta U H λvs H1=>EtK K R H1 vs
def X8 (K:Φ) (hg:Gl X "enumerate") (hm:X.mg "enumerate"=none) (ha:PA X [a] ta) (hK:X.K=K:=by rfl) (hs:starEach [a] X.env=[(false,eval a X.env)]:=by rfl):
  PI X (.Tuple elts kk tp) (.Call (.Name "enumerate" p) [a] [] pos) (iET K ta):=by
 subst hK;intro ac s U H R I h;refine Call_ (kQ I hg hm uH (fP (dq (ha pos ac s U H _ I h) λus s1 ⟨vs,H1,I1,r1,q1⟩=>?_) hs rfl));cases q1 with
 | @mk ad xs hq q=>
  obtain⟨u,rfl,ru⟩:=mB r1;cases(show u=Value.ref ad from ru);obtain⟨bV,rv,tp',hz⟩:=I1.tuple (.inl (.inl hq));refine BI (show s1.heap.IsTuple ad bV.toArray from tp') λh' Hn isI kp=>tV Hn ?_;refine⟨_,[s1.heap.objs.size+1,s1.heap.objs.size],_,_,H1,rfl,I1.kept (t':=s1.toks) kp,BJ ad _ _ (rB _),⟨⟨_,Hn⟩,isI⟩,λb hb=>?_,q⟩;simp only[aU,bF,eE] at hb;rcases hb with rfl|rfl
  .exact I1.pL (dg _) (I1.dh.fresh (dg _))
  .exact I1.pL (ao _) (I1.dh.fresh (ao _))
def lcE {K:Φ}{a D:aq}{g:TG}{tc:TT}{te:TE}{kr:St}{H1:Hp}{Q:VK}{α β:Type}{xs:Aac}{as:List α}{R:V->α->Prop}(S:Hp->V->β->Prop) (F:Nat->α->Option β) (Fr:St->Prop) (hD:H1 D=none) (h1:H1 a=some (.tup xs)) (p:Paired R xs as) (hn:xs.length<=1000) (f0:Fr kr) (hS:∀H H' v b,Tk H H'->S H v b->S H' v b) (st:∀U M T (i:Nat) x b (N:St->Hp->Prop) (Y:V->St->Hp->Prop),Fr U->bc H1 M->M T=some (.tup [.int i,x])->R x b->as[i]?=some b->(F i b=none->∀cz H2,Fr cz->bc M H2->N cz H2)->(∀y y' cz H2,F i b=some y'->Fr cz->bc M H2->S H2 y y'->Y y cz H2)-> g (.ref T) U M λcz H3=>tc cz H3 λc H4=>if c=true then te cz H4 λy H5=>Y y cz H5 else N cz H4) (q:∀ys M,bc H1 M->M D=some (.lst ys)->Paired (S M) ys (as.zipIdx.filterMap λp=>F p.2 p.1)->Q (.ref D) M):tj (Ite K a) g tc te kr H1 Q D:=by
 have lp:=ee p;refine zF (n:=xs.length) (u:=λi=>.int i) (v:=λi=>xs.getD i .e_) (λi ys U M=>Fr U/\bc H1 M/\Paired (S M) ys ((as.zipIdx.take i).filterMap λp=>F p.2 p.1)) hD hn ⟨f0,bZ hD _,.nil⟩ (λi ys U M hi hy ⟨_,s,_⟩=>?_) ?_ ?_
 .have sq:iY K M a xs:=iY.of (s _ _ h1);refine⟨λe=>⟨_,sq,e⟩,λlt=>⟨⟨_,_,sq,ag lt⟩,λx H' y=>?_⟩⟩;obtain⟨T,z,f1,rfl,rfl,f2⟩:=y;refine⟨T,f1,rfl,?_⟩;rw[aw,f2 _ sq];rfl
 .rintro i ys U M T hi hy ⟨fr,s,pz⟩ hT;have ex:xs[i]?=some (xs.getD i .e_):=by rw[aw,ag hi];rfl
  obtain⟨b,eb,r⟩:=je p i _ ex;generalize xs.getD i .e_=x at*;have s1:=bZ hT (.tup [.int i,x]);have w1:upd M T (.tup [.int i,x]) T=some (.tup [.int i,x]):=ba;have hy1:=s1 _ _ hy;generalize upd M T (.tup [.int i,x])=M1 at*;have tk:as.zipIdx.take (i+1)=as.zipIdx.take i++ [(b,i)]:=by rw[bM,List.getElem?_zipIdx,eb,mL,Nat.zero_add];rfl
  refine st U M1 T i x b (λcz H4=>_/\_) (λy cz H5=>_/\_) fr (s.trans s1) w1 r eb (λe cz M2 f2 s2=>?_) λv c cz M2 e f2 s2 hc=>?_
  .refine⟨s2 _ _ hy1,f2,(s.trans s1).trans s2,?_⟩;rw[tk,iC,show[(b,i)].filterMap (λp=>F p.2 p.1)=[] by simp[e],dU];exact sP (λ_ _=>hS _ _ _ _ (s1.trans s2).vd) pz
  .have tD:Tk M2 (upd M2 D (.lst (ys++ [v]))):=λd xs e=>by rw[bN (λz=>by rw[z,s2 _ _ hy1] at e;cases e)];exact e
   refine⟨s2 _ _ hy1,f2,λd o e=>?_,?_⟩
   .rw[bN (λz=>by rw[z,hD] at e;cases e)];exact s2 _ _ (s1 _ _ (s _ _ e))
   .rw[tk,iC,show[(b,i)].filterMap (λp=>F p.2 p.1)=[c] by simp[e]];exact xg (hS _ _ _ _ tD hc) (sP (λ_ _ h=>hS _ _ _ _ tD (hS _ _ _ _ (s1.trans s2).vd h)) pz)
 .rintro ys U M hy ⟨_,s,pz⟩;rw[show as.zipIdx.take xs.length=as.zipIdx by rw[lp,<-List.length_zipIdx (l:=as) (i:=0),bX]] at pz;exact q ys M s hy pz
def Cv (ns:List Int):preSum (λi=>ns.getD i 0) ns.length=ns.sum:=by
 have key:∀k,k<=ns.length->preSum (λi=>ns.getD i 0) k=(ns.take k).sum:=λk=>by
  induction k with
  |zero=>intro _;rfl
  |succ k ih=>intro hk;show preSum _ k+ns.getD k 0=_;rw[ih ω,bM,ag ω,Option.toList_some,List.sum_append,List.sum_singleton,aw,ag ω];rfl
 rw[key _ (ao _),bX]
inductive Ni (H:Hp) (Q:VK):Aac->Prop
 |mk {p:aq} {ns:List Int} (h:H p=some (.lst (ns.map V.int))) (q:Q (.int ns.sum) H):Ni H Q [.ref p]
def X9:Aac->Hp->VK->Prop:=λvs H Q=>Ni H Q vs
def Pc (hc:X.calm=true:=by rfl):dR X (.builtin "sum") X9:=(wW hc).wk λx H Q q=>by
 cases q with
 |mk h q=>exact⟨_,_,rfl,gj.of h,by rw[Cv];exact q⟩
inductive SD (H:Hp) (Q:VK):Aac->Prop
 |mk {p:aq} {ns:List Int} (h:H p=some (.lst (ns.map V.int))) (n:0<ns.length) (q:∀m,m∈ns->(∀k∈ns,m<=k)->Q (.int m) H):SD H Q [.ref p]
def X_:Aac->Hp->VK->Prop:=λvs H Q=>SD H Q vs
def Ya (hc:X.calm=true:=by rfl):dR X (.builtin "min") X_:=(E1 hc).wk λx H Q q=>by
 cases q with
 |mk h n q=>exact⟨_,_,rfl,gj.of h,n,q⟩
section
open PySem.W
def sS (H:Hp) (a:aq) (rows:List jN):Prop:=∃us,H a=some (.lst us)/\Paired (gZ H) us rows
def sS.same {H}(h:sS H a rows) (s:bc H H'):sS H' a rows:=by obtain⟨us,h1,h2⟩:=h;exact⟨us,s _ _ h1,acM h2 λ_ _ z=>z.up λ_ _ e=>s _ _ e⟩
structure Rb (rows:List jN):Prop where
 bo:∀r∈rows,r.2.1="both"
 up:Up (eO rows)
 w:∀r∈rows,0<=r.2.2/\r.2.2<=1000000
 l3:3<=rows.length
 l6:rows.length<=6
 so:∀n∈eO rows,PyData.strOk n=true
def ot (rows:List jN):(eO rows).length=rows.length:=ah _
def up_eq (h:Up a) (k:Up b) (p:a.Perm b):a=b:=qj (λx y _ _ h1 h2=>by have:=lJ h1 h2;rw[oh] at this;cases this) h k p
def FN:List jN->Str->Int
 | [],_=>0
 |r::rows,n=>if r.1=n then r.2.2 else FN rows n
def wE (r:jN):Key×V:=(.inr r.1,.int r.2.2)
def Jg (h:¬r.1∈eO rows):putK (rows.map wE) (.inr r.1) (.int r.2.2)=(rows++ [r]).map wE:=by unfold putK;rw[aI,bC];rfl;intro z;obtain⟨kv,h1,h2⟩:=List.any_eq_true.mp z;obtain⟨x,h3,rfl⟩:=br.mp h1;exact h (by rw[<-vG (fe h2)];exact dr h3)
def Cw:∀{rows:List jN},n∈eO rows->gP (rows.map wE) (.inr n)=some (.int (FN rows n))
 | [],h=>nomatch h
 |r::rows,h=>by
  unfold FN;by_cases e:r.1=n
  .rw[aJ e];exact gg (dA Sum.inr e)
  .rw[aI e,bG,gh (λz=>e (vG z))];exact Cw ((aU.mp h).resolve_left λz=>e z.symm)
def yH:∀{rows:List jN},(∀r∈rows,0<=r.2.2/\r.2.2<=1000000)->∀x:Str,0<=FN rows x/\FN rows x<=1000000
 | [],_,_=>⟨F_ 0,(by decide:(0:Int)<=1000000)⟩
 |r::rows,h,x=>by
  unfold FN;split
  .exact h r (.head _)
  .exact yH (λq hq=>h q (.tail _ hq)) x
def AI (nd:(eO rows).Nodup) (h:rows[i]?=some r):rows.take (i+1)=rows.take i++ [r]/\¬r.1∈eO (rows.take i):=by
 have tk:rows.take (i+1)=rows.take i++ [r]:=by rw[bM,h];rfl
 refine⟨tk,λz=>?_⟩;have e:rows=rows.take i++ [r]++rows.drop (i+1):=by rw[<-tk,fw]
 unfold eO at nd z;rw[e,bC,bC] at nd;exact(fg.mp (fg.mp nd).1).2.2 _ z _ ς rfl
def TupAt (H:Hp) (u:V) (t:Aab):Prop:=∃a,u=.ref a/\H a=some (.tup (t.map V.str))
def TupAt.up {H}(h:TupAt H v r) (s:∀b xs,H b=some (.tup xs)->H' b=some (.tup xs)):TupAt H' v r:=by obtain⟨a,h1,h2⟩:=h;exact⟨a,h1,s _ _ h2⟩
abbrev acI (H:Hp) (us:Aac) (ts:List (Aab)):Prop:=Paired (TupAt H) us ts
def FO (ns:Aab):Nat->List (Aab)
 |0=>[[]]
 |k+1=>(FO ns k).flatMap λt=>ns.filterMap λn=>if n∈t then none else some (t++ [n])
def kK:∀{k:Nat}{t:Aab},t∈FO ns k->(∀x∈t,x∈ns)/\t.length=k
 |0,t,h=>by rw[FO,aK] at h;rw[h];exact⟨λ_ h=>(nomatch h),rfl⟩
 |k+1,t,h=>by
  rw[FO,jj] at h;obtain⟨u,hu,h⟩:=h;obtain⟨n,hn,e⟩:=di.mp h;split at e
  .cases e
  .cases e;obtain⟨h1,h2⟩:=kK hu;refine⟨λm hm=>?_,by rw[aA,aE,h2]⟩;rcases aX.mp hm with z|z
   .exact h1 m z
   .rw[aK.mp z];exact hn
def yI (hs:ns.length<=6):∀k:Nat,(FO ns k).length<=6^k
 |0=>ao _
 |k+1=>by rw[FO,Bg];exact aB (qW (λ_=>aB (gL _ _) hs) _) (vL _ (yI hs k))
def Pd (h:Rb rows):FO (eO rows) 2≠[]:=by
 obtain⟨a,b,r,e⟩:∃a b r,eO rows=a::b::r:=by
  have l:=ot rows;have l3:=h.l3
  match eO rows,l with
  |a::b::r,_=>exact⟨a,b,r,rfl⟩
  | [],l=>simp at l;omega
  | [a],l=>simp at l;omega
 have nd:=h.up.nodup;rw[e] at nd⊢;intro z;have m:[a,b]∈FO (a::b::r) 2:=jj.mpr ⟨[a],jj.mpr ⟨[],.head _,di.mpr ⟨a,.head _,rfl⟩⟩,di.mpr ⟨b,.tail _ (.head _),aI λz=>(hJ.mp nd).1 (by rw[<-aK.mp z];exact .head _)⟩⟩;rw[z] at m;cases m
def jO (rows:List jN) (s:Aab):Int:=(s.zipIdx.filterMap λp=>some (FN rows p.1*(2*(p.2:Int)+1-2))).sum
inductive NfI (H:Hp) (Q:VK):Aac->Prop
 |mk {a:aq} {rows:List jN} {side:Str} (h:sS H a rows) (b:Rb rows) (q:∀l M,bc H M->M l=some (.lst ((eO rows).map V.str))->Q (.ref l) M):NfI H Q [.ref a,.str side]
def NfC:Sp:=λvs H Q _=>NfI H Q vs
inductive Nj (H:Hp) (Q:VK):Aac->Prop
 |mk {a g:aq} {rows:List jN} {sU:Aab} (h:sS H a rows) (b:Rb rows) (hg:H g=some (.tup (sU.map V.str))) (l2:sU.length=2) (q:∀l us M,bc H M->M l=some (.lst us)->acI M us (FO (eO rows) 2)->Q (.ref l) M):Nj H Q [.ref a,.ref g]
def SE:Sp:=λvs H Q _=>Nj H Q vs
inductive SF (H:Hp) (Q:VK):Aac->Prop
 |mk {g:aq} {sU:Aab} {i:Nat} (hg:H g=some (.tup (sU.map V.str))) (q:Q (.int (2*(i:Int)+1-sU.length)) H):SF H Q [.ref g,.int i]
def Yb:Sp:=λvs H Q _=>SF H Q vs
inductive D9 (H:Hp) (Q:VK):Aac->Prop
 |mk {a g t:aq} {rows:List jN} {sU s:Aab} (h:sS H a rows) (b:Rb rows) (hg:H g=some (.tup (sU.map V.str))) (l2:sU.length=2) (ht:H t=some (.tup (s.map V.str))) (ls:s.length=2) (sub:∀x∈s,x∈eO rows) (q:∀M,bc H M->Q (.int (jO rows s)) M):D9 H Q [.ref a,.ref g,.ref t]
def D_:Sp:=λvs H Q _=>D9 H Q vs
def abJ:List (Str×NameKind):=[(".0",.local),("name",.local),("sides",.local),("weight",.local),("side",.free)]
def SG:(["name","sides","weight","side"]:Aab).Nodup:=η
def abK:List (Str×NameKind):=[(".0",.local),("start",.local),("name",.local),("names",.free)]
def Yc:(["start","name","names"]:Aab).Nodup:=η
def Jh:(["name","sides","weight"]:Aab).Nodup:=η
def Pe:(["seat","name","weights","rig"]:Aab).Nodup:=η
def Yd:List (Str×NameKind):=[(".0",.local),("seat",.local),("name",.local),("arm_of",.globalImplicit),("rig",.free),("weights",.free)]
abbrev sNf:Stmt:=top 33
abbrev sEv:Stmt:=top 36
abbrev SH:Stmt:=top 32
abbrev Ji:Stmt:=top 34
def SI (F:gX K "names_for" "names_for" sNf f fd) (T:Txt mg):cG P w K mg base fK 1 f fd ["rowers","side"] NfC:=by
 have sc:bx ["rowers","side"] ["rowers","side"] (aP sNf):={};exists sc;refine⟨_,aO (bK (bj O0 rfl T.sorted ik (ae (gm (N:=["name","sides","weight","side"]) rfl (om K (pC 0)) (cY.Fm ["name","sides","weight"] (fr:="side") (j:=1) (nm:=abJ) rfl rfl rfl (.inl rfl) η η η η η) (λ_ _ _=>rY 3 (gY (aM (i:=0) SG) (gY (aM (i:=1) SG) (gY (aM (i:=2) SG) rX)))) (λ_ _ _=>gK (fG oIn (pC 1) (jx (ae (pC 3) (ae f_ aj))) rfl)) (λ_ _ _=>pC 0)) aj))),?_⟩;obtain @⟨a,rows,side,⟨us,hu,pr⟩,b,q⟩:=h;have lu:us.length=rows.length:=ee pr;have l6:=b.l6;refine mZ.mk hu λD hD=>Kn (λ_ v b=>v=.str b) (λr:jN=>some r.1) (λU=>∃a b c,U=[a,b,c,some (.str side)]) hD (wa hu) pr ω ⟨_,_,_,rfl⟩ (λ_ _ _ _ _ e=>e) ?_ λys M s w pr=>?_
 .rintro U M x r N Y ⟨_,_,_,rfl⟩ s ⟨a,rfl,h1⟩ hm hN hY;refine pT.mk (s _ _ h1) rfl (cU.mk rfl λt M2 s2 w2 n2=>My.t w2 rfl rfl ?_);rw[b.bo r hm,show Gc (.str "both") [.str side,.str "both"]=true by unfold Gc;rw[iu,iu,show Hc (V.str "both") (.str "both")=true from rfl,Bool.true_or,Bool.or_true]];exact hY _ _ _ _ rfl ⟨_,_,_,rfl⟩ s2 rfl
 .rw[pairE pr,Vg] at w;refine we.mk (ss:=eO rows) w (by rw[ot];omega) λl zs M2 s2 w2 n2 pm so=>q l M2 (s.trans s2) ?_;rw[w2,up_eq (jq so (pm.nodup_iff.mpr b.up.nodup)) b.up pm]
def Nk (F:gX K "every_seating" "every_seating" sEv f fd) (T:Txt mg) (DN:Df P w K mg base 1 "names_for" ["rowers","side"] NfC):cG P w K mg base fK 2 f fd ["rowers","rig"] SE:=by
 have sc:bx ["rowers","rig","begun","side","names"] ["rowers","rig"] (aP sEv):={};exists sc;refine⟨_,az (iQ (i:=2) sc.nd (oU (ae (jx aj) aj))) (az (gy bz rfl (Cj K (pC 1)) (aM (i:=3) sc.nd) (az (kR (i:=4) sc.nd rfl (Or.inr rfl) (pD DN hr (ae (pC 0) (ae (pC 3) aj)))) (aO (wX (i0:=2) (N:=["start","name","names"]) (g:=d_ 0) (g2:=d_ 1) sc.nd rfl (Or.inl rfl) rfl (om K (pC 2)) (cY.Fm ["start","name"] (fr:="names") (j:=4) (nm:=abK) rfl rfl rfl (.inl rfl) η η η η η) (λ_ _ _=>aM (i:=0) Yc) (λ_ _ _=>eD) (λ_ _ _=>om K (pC 2)) (λ_ _ _=>aM (i:=1) Yc) (λ_ _ _=>gK (fG RI (pC 1) (pC 0) rfl)) (λ_ _ _=>bQ Dx (pC 0) (jx (ae (pC 1) aj))))))) (aO (bK (pC 2)))),?_⟩;obtain @⟨a,g,rows,sU,hR,b,hg,l2,q⟩:=h;have l6:(eO rows).length<=6:=by rw[ot];exact b.l6
 refine cU.mk rfl λe M1 s1 w1 n1=>cU.mk rfl λpk M2 s2 w2 n2=>An.mk ((s1.trans s2) _ _ hg) (Ap (λi U M=>∃v n pk us,U=[some (.ref a),some (.ref g),some (.ref pk),v,n]/\bc H M/\M pk=some (.lst us)/\acI M us (FO (eO rows) i)) ⟨_,_,pk,[.ref e],rfl,s1.trans s2,w2,.cons ⟨e,rfl,s2 _ _ w1⟩ .nil⟩ (λi U M ⟨_,_,_,_,_,s,_⟩=>s _ _ hg) ?_ ?_)
 .rintro i x U M D' hx ⟨v,n,pk,us,rfl,sm,hk,hT⟩ ⟨nx,_⟩;have hi:i<2:=by have:=(aF.mp hx).1;rw[ah] at this;omega
  rw[aR] at hx;obtain⟨side,_,rfl⟩:=cw.mp hx;refine NfI.mk (hR.same sm) b λl M2 s2 w2=>?_;have sm2:=sm.trans s2;have lu:us.length=(FO (eO rows) i).length:=ee hT;have h8:(FO (eO rows) i).length<=36:=aB (yI l6 i) (cH δ (by omega:i<=2));refine mZ.mk (s2 _ _ hk) λD hD=>XZ (K:=K) (p:=l) TupAt (λt n=>if n∈t then none else some (t++ [n])) (λU=>∃a b,U=[a,b,some (.ref l)]) (λx U=>∃b,U=[some x,b,some (.ref l)]) hD (wa (s2 _ _ hk)) (acM hT λ_ _ z=>z.up λb xs e=>s2 _ _ e) w2 kI (by rw[ah];exact aB (vM (by omega:us.length+1<=37) l6) δ) ⟨_,_,rfl⟩ (λ_ _ _ _ t h=>h.up t) (λx U ⟨b,e⟩=>⟨_,_,e⟩) ?_ ?_ ?_
  .rintro U M' x a Z ⟨_,_,rfl⟩ s r ha hz;exact mZ.mk (s _ _ w2) (hz _ ⟨_,rfl⟩)
  .rintro U M' x t y m N Y ⟨_,rfl⟩ s ⟨a,rfl,h1⟩ ht rfl hm hN hY;refine My.t (s _ _ h1) rfl (rZ _) ?_;rw[yv];by_cases c:m∈t
   .rw[aZ c];exact hN (aJ c) _ _ ⟨_,rfl⟩ (bc.refl _)
   .rw[bw c];refine cU.mk rfl λd5 M5 s5 w5 n5=>mS.any (s5 _ _ (s _ _ h1)) w5 ς (by have:=(kK ht).2;simp only[ah,aE];omega) λr M6 s6 w6=>hY _ _ _ _ (aI c) ⟨_,rfl⟩ (s5.trans s6) ⟨r,rfl,by rw[w6,bC];rfl⟩
  .exact λzs M' s w pr=>nx _ _ ⟨_,_,D,zs,rfl,sm2.trans s,w,pr⟩
 .rintro U M ⟨v,n,pk,us,rfl,sm,hk,hT⟩;rw[ah,l2] at hT;exact q pk us M sm hk hT
def Nl (F:gX K "arm_of" "arm_of" SH f fd) (T:Txt mg):cG P w K mg base fK 1 f fd ["rig","seat"] Yb:=by have sc:bx ["rig","seat"] ["rig","seat"] (aP SH):={};exists sc;refine⟨_,aO (bK (bQ (oK rH) (bQ (oK fF) (bQ (yX kS) aH (pC 1)) aH) (bj mw rfl T.len bY (ae (pC 0) aj)))),?_⟩;obtain @⟨g,sU,i,hg,q⟩:=h;refine⟨.inl ⟨δ,δ⟩,kj.t hg ?_⟩;rw[ah];exact q
def Jj (F:gX K "trim_of" "trim_of" Ji f fd) (T:Txt mg) (DA:Df P w K mg base 1 "arm_of" ["rig","seat"] Yb):cG P w K mg base fK 2 f fd ["rowers","rig","seating"] D_:=by
 have sc:bx ["rowers","rig","seating","weights"] ["rowers","rig","seating"] (aP Ji):={};exists sc;have hu:=nr hr;refine⟨_,az (kR (i:=3) sc.nd rfl (Or.inr rfl) (OK (N:=["name","sides","weight"]) rfl (om K (pC 0)) (cY.closed rfl) (λ_ _ _=>rY 3 (gY (aM (i:=0) Jh) (gY (aM (i:=1) Jh) (gY (aM (i:=2) Jh) rX)))) (λ_ _ _=>eD) (λ_ _ _=>pC 0) (λ_ _ _=>pC 2))) (aO (bK (bj Pc rfl T.sum kZ (ae (gm (N:=["seat","name","weights","rig"]) rfl (X8 K rfl T.enum (ae (pC 2) aj)) (cY.Mg ["seat","name"] (fr:="weights") (fs:="rig") (j:=3) (k:=1) (nm:=Yd) rfl rfl rfl rfl (.inl rfl) (.inl rfl) η η η η η η η) (λ_ _ _=>rY 2 (gY (aM (i:=0) Pe) (gY (aM (i:=1) Pe) rX))) (λ_ _ _=>eD) (λ_ _ _=>bQ (yX kS) (xk hu (pC 2) (pC 1) (λ_ _=>rfl)) (pD DA hr (ae (pC 3) (ae (pC 0) aj))))) aj)))),?_⟩;obtain @⟨a,g,t,rows,sU,ss,⟨us,hp,pr⟩,b,hg,l2,ht,ls,sub,q⟩:=h;have lu:us.length=rows.length:=ee pr;have l6:=b.l6;refine mZ.mk hp λD hD=>dcW (λi kvs U M=>(∃a b c,U=[a,b,c])/\bc H M/\kvs=(rows.take i).map wE) hD ω (wa hp) ⟨⟨_,_,_,rfl⟩,bZ hD _,rfl⟩ (λ_ _ _ _ h=>h.2.1) ?_ ?_
 .rintro i v kvs U M hv hy ⟨⟨_,_,_,rfl⟩,s,rfl⟩;obtain⟨r0,hr0,a,rfl,ha⟩:=je pr i _ hv;obtain⟨tk,nin⟩:=AI b.up.nodup hr0;refine pT.mk (s _ _ ha) rfl ⟨.inr r0.1,rfl,hy,⟨_,_,_,rfl⟩,λy o e=>?_,by rw[tk];exact Jg nin⟩;rw[bN (λz=>by rw[z,hD] at e;cases e)];exact s _ _ e
 rintro kvs U M1 w1 ⟨_,s1,rfl⟩;rw[lu,bX] at w1;refine EtK.mk (s1 _ _ ht) λL hL=>lcE (λ_ v b=>v=.int b) (λi n=>some (FN rows n*(2*(i:Int)+1-2))) (λU=>∃a b,U=[a,b,some (.ref D),some (.ref g)]) hL (s1 _ _ ht) kI (by rw[ah];omega) ⟨_,_,rfl⟩ (λ_ _ _ _ _ e=>e) ?_ λys M s w pr=>?_
 .rintro U M T i x n N Y ⟨_,_,rfl⟩ s hT rfl hn hN hY;have hm:=sub n (aY hn);obtain⟨b1,b2⟩:=yH b.w n;refine pT.mk hT rfl (AH.mk (v:=.int (FN rows n)) (Cw hm▸jc.k (k:=.inr n) (s _ _ w1)) (SF.mk (s _ _ (s1 _ _ hg)) ⟨.inl ⟨ω,ω⟩,?_⟩));rw[l2];exact hY _ _ _ _ rfl ⟨_,_,rfl⟩ (bc.refl _) rfl
 .rw[pairE pr] at w;exact Ni.mk w (q M (s1.trans s))
def FP {A}{E}(I:Inv X ac U H s) (qP:X.env.code=.ref c) (C:CodeHd X.base c Pt) (B:tz X.base X.mg) (tb:TabAt H Pt pos q) (hq:X.env.qual++"<lambda>"=q) (hd:defaultsOf params X.env=([],[])) (zA:closureFor scope X.env=pure SJ) (k:∀f c' mY pm H' s',Inv X ac U H' s'->s'.heap.get? f=some (kla_obj "<lambda>" q params body scope SJ pm c' mY)->s'.heap.CodeRec (.ref c') q->H' f=none->f≠X.env.locals->f∉X.fs->H' c'=some (jM c' q)->cX Pt H H'->TabAt H' Pt pos q->Q (.ref f) s'):
  wpAny M A (eval (.Lambda params body scope pos) X.env) Q E s:=by
 have WI:=I.ok.mod.glob.keeps I.bk;obtain⟨ps0,tb0⟩:=tb.ps;have WJ:∀b o,X.base.get? b=some o->b≠Pt:=λb o e z=>by have:=(I.bs b o e).2;rw[z,tb0] at this;cases this
 have hgP:mainGlobals≠Pt:=by obtain⟨o,es,ep,e,_⟩:=I.ok.mod.glob;exact WJ _ _ e
 obtain⟨bm,ob,b1,b2,b3,b4,b5,b6⟩:=B;have hbG:bm≠mainGlobals:=λz=>by obtain⟨o,es,ep,e,hd,_⟩:=I.ok.mod.glob;rw[z,e] at b3;cases b3;rw[hd] at b6;cases b6
 have Rp:s.heap.BuiltinsAt X.mg Pt:=⟨bm,ob,b1,b2,hbG,WJ _ _ b3,I.bk _ _ b3,b4,b5,b6⟩;refine kla_eval hd ?_;rw[hq];rcases tb with tb|⟨c0,tb,tc⟩
 .have hP:s.heap.get? Pt=some (tabObj #[]):=I.dh _ _ tb;refine kla_makeFunction (mg:=X.mg) zA I.ok.glob WI qP (C.keeps I.bk) hP trivial rfl hgP Rp λc' mY h' tk hx L_ ie HP htb=>?_;have nc:H c'=none:=I.dh.fresh L_;have WK:c'≠Pt:=λz=>by rw[z,tb] at nc;cases nc
  have HQ:h'.get? Pt=some (tabObj #[rawInt pos.line,rawInt pos.col,.ref c']):=htb;generalize Rn:kla_obj "<lambda>" q params body scope SJ ((X.mg "__name__").getD .none) c' mY=obj;have kp:∀b o,b≠Pt->s.heap.get? b=some o->(h'.push obj).get? b=some o:=λb o n e=>af _ (hx b o n e);have nP:∀b,H b=none->b≠Pt:=λb n z=>by rw[z,tb] at n;cases n
  have lt:∀b o,s.heap.get? b=some o->b≠c':=λb o e z=>by have:=aG e;rw[z] at this;exact absurd this (jQ.mpr L_)
  have g_:∀b,b≠Pt->b≠c'->upd (upd H c' (jM c' q)) Pt (.jT #[rawInt pos.line,rawInt pos.col,.ref c']) b=H b:=λb n1 n2=>by rw[bN n1,bN n2]
  have Fk:∀b u,H b=some u->b≠c':=λb u e z=>by rw[z,nc] at e;cases e
  have un:Un (nV X.stack) [] H (upd (upd H c' (jM c' q)) Pt (.jT #[rawInt pos.line,rawInt pos.col,.ref c'])) s.heap (h'.push obj):=by
   refine⟨λb o e n _ _=>kp b o (nP b n) e,λb o e n _ _=>⟨o.slots,kp b o (nP b n) e⟩,λb o e n _=>?_,λb o e _=>?_,λb xs e=>?_,λb o u e=>?_,λb ps e=>?_⟩
   .rw[g_ b (nP b n) (lt b o e)];exact n
   .by_cases z:b=Pt
    .subst z;exact⟨_,af _ HQ⟩
    .exact⟨_,kp b o z e⟩
   .rw[g_ b (λz=>by rw[z,tb] at e;cases e) (Fk b _ e)];exact e
   .rw[g_ b (λz=>by rw[z,tb] at e;cases e) (Fk b _ e)];exact e
   .by_cases z:b=Pt
    .subst z;rw[tb] at e;cases e;exact⟨#[rawInt pos.line,rawInt pos.col,.ref c'],ba⟩
    .exact⟨#[],by rw[g_ b z (Fk b _ e),e];simp⟩
  have dh:nU X.prog X.w (upd (upd H c' (jM c' q)) Pt (.jT #[rawInt pos.line,rawInt pos.col,.ref c'])) (h'.push obj):=λb u e=>by
   by_cases z:b=Pt
   .subst z;rw[ba] at e;cases e;exact af _ HQ
   .by_cases z2:b=c'
    .subst z2;rw[bN z,ba] at e;cases e;exact Ae (HP.push _)
    .rw[g_ b z z2] at e;refine(I.dh b u e).vP (λd v hd hv=>?_) (λd hd=>?_) (λd xs hd=>?_)
     .refine kp d v ?_ hv;rcases hd with rfl|hd
      .exact z
      .intro y;rw[y,tb] at hd;cases hd
     .rw[g_ d (λy=>by rw[y,tb] at hd;cases hd) (Fk d _ hd)];exact hd
     .rw[g_ d (λy=>by rw[y,tb] at hd;cases hd) (Fk d _ hd)];exact hd
  have J:=I.call (h':=h'.push obj) (g':=s.gens) (t':=tk) (d':=s.drawn) (ch:=[]) un dh I.bare (λb z=>absurd z ς);have WL:s.heap.objs.size<=h'.objs.size:=aB L_ (d7 ie);have nf:upd (upd H c' (jM c' q)) Pt (.jT #[rawInt pos.line,rawInt pos.col,.ref c']) h'.objs.size=none:=by have hs:s.heap.objs.size<=h'.objs.size:=aB L_ (d7 ie);have nh:H h'.objs.size=none:=I.dh.fresh hs;rw[g_ _ (nP _ nh) (fc ie)];exact nh
  refine k h'.objs.size c' mY ((X.mg "__name__").getD .none) _ _ J ?_ (HP.push _) nf (fc (aT I.lt WL)) (I.Gy WL) (by rw[bN WK,ba]) (λb o n e=>by rw[g_ b n (Fk b _ e)];exact e) (.inr ⟨c',ba,by rw[bN WK,ba]⟩);rw[<-Rn];exact av _ rfl
 .have hP:s.heap.get? Pt=some (tabObj #[rawInt pos.line,rawInt pos.col,.ref c0]):=I.dh _ _ tb;refine kla_makeFunctionHit (mg:=X.mg) (cv:=.ref c0) zA I.ok.glob WI qP (C.keeps I.bk) hP trivial (codeAmong_snoc [] trivial rfl) Rp λmY h' tk hk hsz=>?_;have J:=I.kept (h':=h'.push {cls:=.type "function",data:=.func (kla_fn "<lambda>" q params body scope SJ ((X.mg "__name__").getD .none) (.ref c0) mY)}) (t':=tk) λb o e=>af _ (hk b o e);have mX:s.heap.CodeRec (.ref c0) q:=(I.dh _ _ tc).1;exact k h'.objs.size c0 mY ((X.mg "__name__").getD .none) H _ J (av _ rfl) ((mX.keeps hk).push _) (I.dh.fresh hsz) (fc (aT I.lt hsz)) (I.Gy hsz) tc (λ_ _ _ e=>e) (.inr ⟨c0,tb,tc⟩)
def Nm (P:aQ) (w:bg) (K:Φ) (mg:Aae) (base:Heap) (N:Aab) (qual:Str) (scope:Scope) (f:aq) (cd:ai) (cl:List (Str×aq)) (A:bL) (outer:List Env) (s:ar) (H:Hp):Cx where
 prog:=P
 w:=w
 K:=K
 mg:=mg
 base:=base
 A:=A.deeper (envX qual scope s.heap.objs.size f cd cl)
 N:=N
 iO:=s
 y_:=H
 env:=envX qual scope s.heap.objs.size f cd cl
 outer:=outer
 stack:=envX qual scope s.heap.objs.size f cd cl::outer
 ex:=[]
 calm:=true
 fn:=λ_=>false
 pn:=[]
 xe:=λe s'=>wpAny (model P w) (A.deeper (envX qual scope s.heap.objs.size f cd cl)) (leaving (envX qual scope s.heap.objs.size f cd cl) e) (λ_ Qx=>fK outer H s E0 e Qx) (λe' Qx=>fK outer H s E0 e' Qx) s'
def Np {H}(S:cY X scope (x::N) (none::r)) (UY:scope.names.lookup x=some .local) (hd:X.A.in1.handled=none) (I:Inv X ac U H s) (rv:RelV v u) (OC:h'.Ns s.heap.objs.size (λy=>[(x,u)].reverse.lookup y)) (kp:∀b o,s.heap.get? b=some o->h'.get? b=some o):
  Inv (Nm X.prog X.w X.K X.mg X.base (x::N) q scope f (.ref c) (eY scope X.env) X.A.in1 X.stack s H) [] (some v::r.map (pick U)) H {s with heap:=h',toks:=tk}:=by
 have e0:=I.EG.in1;have K6:∀b:aq,b∉(Nm X.prog X.w X.K X.mg X.base (x::N) q scope f (.ref c) (eY scope X.env) X.A.in1 X.stack s H).ex:=λb z=>absurd (show b∈([]:List aq) from z) ς;have old:∀y c,(eY scope X.env).lookup y=some c->X.env.cells.lookup y=some c:=λy c e=>uC scope.names [] (λy c z=>by simp at z) e;have has:∀y,scope.names.lookup y=some .free->∃c,(eY scope X.env).lookup y=some c:=λy hy=>by have hm:=eI hy;exact qD scope.names [] hm (I.ok.has y (S.out _ hm rfl))
 refine⟨⟨e0.mod,S.kind,rfl,rfl,ao _,λy z c h1 h2=>I.ok.inj y z c (old _ _ h1) (old _ _ h2),λy hy=>?_,λy c z=>absurd (show false=true from z) ς,λ_=>hd,Around.frames_deeper e0.frames,.inr ⟨rfl,rfl⟩,λb z=>absurd z (K6 b),e0.bs,e0.CM,λb _ _=>K6 b,λb z=>absurd z (K6 b),e0.lY,e0.Ez⟩,
  rfl,e0.bare,Un.kept kp,⟨_,OC,λi y v' h1 h2 h3=>?_⟩,λy c h=>?_,e0.dh.fresh (ao _),λy c h=>I.jL y c (old _ _ h),λp hp=>absurd (show p∈([]:Aaa) from hp) ς,e0.dh.kept kp,?_⟩
 .have hy:scope.names.lookup y=some .cell\/scope.names.lookup y=some .free:=hy;rcases hy with hy|hy
  .exact absurd rfl (S.jm _ (eI hy))
  .exact has y hy
 .cases i with
  |zero=>have h1:(x::N)[0]?=some y:=h1;rw[Ut] at h1 h2;cases h1;cases h2;exact⟨u,rv,.inl ⟨UY,ς⟩⟩
  |succ i=>
   rw[rD,aR] at h2;cases hr:r[i]? with
   |none=>rw[hr] at h2;cases h2
   |some o=>
    rw[hr] at h2;have h2:pick U o=some v':=by simpa using h2
    cases o with
    |none=>cases h2
    |some j=>
     obtain⟨a1,a2,a3⟩:=S.free (i+1) j y (by rw[rD];exact hr) h1;have h4:U[j]?=some (some v'):=by
      have h2:(U[j]?).join=some v':=h2;cases e:U[j]? with
      |none=>rw[e] at h2;cases h2
      |some z=>rw[e] at h2;have:z=some v':=h2;rw[this]
     obtain⟨m,_,hl⟩:=I.loc;have ho:=S.out _ a2 rfl;obtain⟨u',r',lk⟩:=hl j y v' a1 h4 (ho.elim (λz=>.inr (.inl z)) λz=>.inr (.inr z));refine⟨u',r',?_⟩;rcases lk with⟨z,_⟩|⟨_,c',e1,e2⟩
     .have z:X.env.scope.names.lookup y=some .local:=z;rcases ho with w|w
      .have w:X.env.scope.names.lookup y=some .cell:=w;rw[w] at z;cases z
      .have w:X.env.scope.names.lookup y=some .free:=w;rw[w] at z;cases z
     .obtain⟨c2,e3⟩:=has y a3;have:=old _ _ e3;rw[e1] at this;cases this;exact .inr ⟨.inr a3,c',e3,e2.keeps kp⟩
 .obtain⟨v',z⟩:=I.cell y c (old _ _ h);exact⟨v',z.keeps kp⟩
 .have:=S.len;show(some v::r.map (pick U)).length=(x::N).length;simp at this⊢;exact this
def FQ {k:Nat}{f c:aq}{name q:Str}{params:Arguments}{body:Expr}{scope:Scope}{pm mY:ai}{N:Aab}{x:Str}{r:List (Option Nat)}{u:ai}{v:V}{H:Hp}{s:ar}{Q:VK}{vD:TE}(S:cY X scope (x::N) (none::r)) (UY:scope.names.lookup x=some .local) (RS:scope.isCoroutine=false) (SK:scope.isGenerator=false) (hr:eS (k+2) X.A) (I:Inv X ac U H s) (hf:(f,kla_obj name q params body scope (eY scope X.env) pm c mY)∈ac) (hc:H c=some (jM c q)) (rv:RelV v u) (hb:∀(s:ar) (u:ai),BindsTo s (kla_fn name q params body scope (eY scope X.env) pm (.ref c) mY) ⟨[u],[]⟩ [(x,u)]) (iS:∀(A:bL) (outer:List Env) (s:ar) (H:Hp),eS k (A.deeper (envX q scope s.heap.objs.size f (.ref c) (eY scope X.env)))->PE (Nm X.prog X.w X.K X.mg X.base (x::N) q scope f (.ref c) (eY scope X.env) A outer s H) body vD) (h:vD (some v::r.map (pick U)) H Q):
  wpAny (model X.prog X.w) X.A.in1 (call (.ref f) [u]) (EP X ac U Q) (λ_ _=>False) s:=by
 have mX:s.heap.CodeRec (.ref c) q:=(I.dh _ _ hc).1;have ho:=(I.pin _ (aD _ hf)).1;have main:codeAny (model X.prog X.w) X.A.in1 (.call (.ref f) ⟨[u],[]⟩) (CR fK X.stack X.prog X.w H s Q E0) s:=by
  refine kla_callFunE hr.in1.depth ho rfl RS SK rfl mX (hb s u _ _ _ _ ?_);refine gS S.jm (λy hy=>?_) (λh' OC Hi=>?_) S.kind
  .rw[aK.mp hy];exact UY
  have kp:∀b o,s.heap.get? b=some o->h'.get? b=some o:=λb o e=>Hi.extBut b o (aW (aG e)) (af _ e);refine⟨I.nolimit.keeps kp,kla_codeExpr ?_⟩;have J:=Np (q:=q) (f:=f) (c:=c) (tk:=s.toks+ [(x,u)].length) S UY hr.in1.hd I rv OC kp;refine aN (iS X.A.in1 X.stack s H (hr.in1.deeper _) [] _ _ H _ J h) (λu s' hs=>?_) λe s' hs=>hs;obtain⟨v',H',J',rv',q'⟩:=hs;exact⟨v',H',J'.os,J'.bare,J'.base,J'.dh,rv',q'⟩
 refine m7 (iM main λr s' hq=>?_);cases r with
 |error e=>exact hq
 |ok fl=>
  cases fl with
  |ret u'=>exact I.after hq
  |next=>exact False.elim hq
  |brk=>exact False.elim hq
  |cont=>exact False.elim hq
def Pf (Pt:aq) (mr:Pos) (q:Str) (r:List (Option Nat)) (U:St) (vD:TE) (Q:VK) (vs:Aac) (H1:Hp):Prop:=∃(l:aq) (xs:Aac) (ks:List (Int×Aab)),vs=[.ref l]/\H1 l=some (.lst xs)/\xs≠[]/\xs.length=ks.length/\(∀k∈ks,∀z∈k.2,PyData.strOk z=true)/\TabAt H1 Pt mr q/\l≠Pt/\ (∀(i:Nat) (v:V) (k:Int×Aab) (H3:Hp),xs[i]?=some v->ks[i]?=some k->cX Pt H1 H3->vD (some v::r.map (pick U)) H3 λkv H4=>bc H3 H4/\∃t p,kv=.ref t/\H4 t=some (.tup [.int k.1,.ref p])/\H4 p=some (.tup (k.2.map V.str)))/\ ∀(i:Nat) (v:V) (k:Int×Aab) (H3:Hp),xs[i]?=some v->ks[i]?=some k->(∀k'∈ks,cT k' k=false)->cX Pt H1 H3->TabAt H3 Pt mr q->Q v H3
def SM (Pt:aq) (mr:Pos) (q:Str) (r:List (Option Nat)) (vD te:TE):TE:=λU H Q=>te U H λy H1=>Pf Pt mr q r U vD Q [y] H1
def Jk (hc:X.calm=true) (hg:Gl X "min") (hm:X.mg "min"=none) (hr:eS (k+2) X.A) (qP:X.env.code=.ref c) (C:CodeHd X.base c Pt) (B:tz X.base X.mg) (hq:X.env.qual++"<lambda>"=q) (hd:defaultsOf params X.env=([],[])) (S:cY X scope (x::N) (none::r)) (UY:scope.names.lookup x=some .local) (RS:scope.isCoroutine=false) (SK:scope.isGenerator=false) (hb:∀(pm:ai) (c:aq) (mY:ai) (s:ar) (u:ai),BindsTo s (kla_fn "<lambda>" q params body scope (eY scope X.env) pm (.ref c) mY) ⟨[u],[]⟩ [(x,u)]) (iS:∀(f c:aq) (A:bL) (outer:List Env) (s:ar) (H:Hp),eS k (A.deeper (envX q scope s.heap.objs.size f (.ref c) (eY scope X.env)))->PE (Nm X.prog X.w X.K X.mg X.base (x::N) q scope f (.ref c) (eY scope X.env) A outer s H) body vD) (he:PE X e te) (hs:starEach [e] X.env=[(false,eval e X.env)]:=by rfl):
  PE X (.Call (.Name "min" p) [e] [⟨some "key",.Lambda params body scope mr,G6⟩] pos) (SM Pt mr q r vD te):=by
 intro ac s U H Q I h;have pa:PA X [e] (dF te gk):=ae he aj (by rw[hs];rfl);refine eX (kQ I hg hm boot_min ?_ δ δ);refine callWith_kw (dq (pa pos ac s U H (Pf Pt mr q r U vD Q) I h) λus s1 ⟨vs,H1,I1,r1,l,xs,ks,e1,hl,ne,len,Kl,tb,lP,turn,fin⟩=>?_) (by rw[hs];rfl) (by rw[hs];rfl)
 .subst e1;obtain⟨u,rfl,ru⟩:=mB r1;cases(show u=Value.ref l from ru);show wpAny _ _ (evalAll ((do let v<-eval (.Lambda params body scope mr) X.env;standAt pos;pure v):: [])) _ _ s1;refine Gr (aa (FP I1 qP C B tb hq hd (fO λy hy hk=>I1.ok.has y.1 (S.out y hy hk)) λf c' mY pm H2 s2 I2 hf mX nf fl ff ze kp Ru=>aa (dP (au (au ?_)))));have I3:Inv X (ac++ [(f,kla_obj "<lambda>" q params body scope (eY scope X.env) pm c' mY)]) U H2 s2:=I2.nW λp hp=>by
   rcases aX.mp hp with hp|hp
   .exact I2.pin p (aD _ hp)
   .rw[aK.mp hp];exact⟨hf,nf,fl,ff,λv z=>by cases z⟩
  have M:Me X (ac++ [(f,kla_obj "<lambda>" q params body scope (eY scope X.env) pm c' mY)]) U f xs (λi j=>cT (ks.getD i (0,[])) (ks.getD j (0,[]))) (λi u H=>∃k t p,ks[i]?=some k/\u=.ref t/\H t=some (.tup [.int k.1,.ref p])/\H p=some (.tup (k.2.map V.str))) (λH=>cX Pt H1 H/\H c'=some (jM c' q)/\TabAt H Pt mr q):=by
   refine⟨λi u Ha Hb sm ⟨k,t,p,h1,h2,h3,h4⟩=>⟨k,t,p,h1,h2,sm _ _ h3,sm _ _ h4⟩,λHa Hb sm ⟨h1,h2,h3⟩=>⟨λb o n e=>sm _ _ (h1 b o n e),sm _ _ h2,h3.same sm⟩,λi v u gM Ha sa hv ru' sub Ia ⟨k1,k2,k3⟩=>?_,λi j x y gM Ha sa Ia _ ⟨k,t,p,h1,h2,h3,h4⟩ ⟨k',t',p',WT,Ke,h3',h4'⟩=>?_⟩
   .have hi:i<ks.length:=by rw[<-len];exact(aF.mp hv).1
    have hk:=ag hi;refine dq (FQ (k:=k) S UY RS SK hr Ia (sub _ ς) k2 ru' (hb pm c' mY) (λA outer s H=>iS f c' A outer s H) (turn i v _ Ha hv hk k1)) λkv s' hq=>?_;obtain⟨v',H4,I4,rk,sm,t,p,e1,e2,e3⟩:=hq;subst e1;cases(show kv=Value.ref t from rk);exact⟨H4,I4,sm,_,t,p,hk,rfl,e2,e3⟩
   .have gd:∀{i:Nat} {k:Int×Aab},ks[i]?=some k->ks.getD i (0,[])=k:=λe=>by rw[aw,e];rfl
    try dsimp only
    rw[gd h1,gd WT];have pr:∀{u:ai} {k:Int×Aab} {t p:aq},u=.ref t->Ha t=some (.tup [.int k.1,.ref p])->Ha p=some (.tup (k.2.map V.str))->Gg sa.heap u k:=λ{u k t p} e g1 g2=>by
     obtain⟨i1,r1,p1,_⟩:=Ia.tuple (iY.of g1);obtain⟨i2,r2,p2,_⟩:=Ia.tuple (iY.of g2);cases r1 with
     |cons ra rb=>
      cases rb with
      |cons rc rd=>cases rd;obtain⟨tok,rfl⟩:=ra;cases rc;exact⟨t,p,tok,i2,e,p1,p2,iy r2⟩
    exact Gg.lt (pr h2 h3 h4) (pr Ke h3' h4') (Kl _ (aY h1)) (Kl _ (aY WT)) (by have:=hr.un;show X.A.units+1+20<_;omega)
  have aaZ:0<xs.length:=jA.mpr ne;have QG:H2 l=some (.lst xs):=kp _ _ lP hl;refine dq (w_ (Q:=Q) (I.ok.hd hc) M I3 QG ne ⟨kp,ze,Ru⟩ λv H3 hv sm=>?_) λv s' hq=>?_
  .have b:=qL cT mo (λ_ _ _=>iW) (λi=>ks.getD i (0,[])) (xs.length-1);have hi:argBest (λi j=>cT (ks.getD i (0,[])) (ks.getD j (0,[]))) (xs.length-1)<ks.length:=by have:=b.1;omega
   refine fin _ v _ H3 hv (ag hi) (λk' LV=>?_) (λb o n e=>sm _ _ (kp b o n e)) (Ru.same sm);obtain⟨j,hj,rfl⟩:=mV LV;have:=b.2 j ω;try dsimp only at this
   rw[show ks.getD j (0,[])=ks[j] by rw[aw,ag hj];rfl] at this;rw[aw,ag hi] at this;exact this
  .obtain⟨v',H',I',r',q'⟩:=hq;exact⟨v',H',I'.gf,r',q'⟩
def tJ (i:Int):Int:=if i<0 then-i else i
abbrev Nq:Stmt:=top 38
abbrev sMv:Stmt:=top 39
abbrev Kq:Stmt:=top 40
def Ye:Stmt->Pos
 | .Assign _ (.Call _ _ [⟨_,.Lambda _ _ _ p,_⟩] _) _=>p
 |_=>⟨0,0,0,0⟩
def SN:Pos:=Ye ((eC Nq).getD 3 (.Pass ⟨0,0,0,0⟩))
def Yf:Str:=(("seated":Str)++".<locals>.")++"<lambda>"
abbrev Tab (H:Hp) (Pt:aq):Prop:=TabAt H Pt SN Yf
def SO:Stmt->Pos
 | .Return (some (.Tuple [_,.Call _ _ [⟨_,.Lambda _ _ _ p,_⟩] _] _ _)) _=>p
 |_=>⟨0,0,0,0⟩
def Nr:Pos:=SO ((eC Kq).getD 5 (.Pass ⟨0,0,0,0⟩))
def Yg:Str:=(("reseated":Str)++".<locals>.")++"<lambda>"
abbrev yJ (H:Hp) (Pt:aq):Prop:=TabAt H Pt Nr Yg
def Tab.ne {H}(t:TabAt H Pt ps q) (h:H b=some o) (n:∀ps,o≠.jT ps):b≠Pt:=λz=>by obtain⟨ps,e⟩:=t.ps;rw[z,e] at h;exact n ps (bf h).symm
def yJ.ne {H}(t:yJ H Pt) (h:H b=some o) (n:∀ps,o≠.jT ps):b≠Pt:=Tab.ne t h n
structure AJ (K:Φ) (x qual:Str) (st:Stmt) (f:aq) (fd:FuncData) (c dt:aq):Prop where
 ex:∃(oc:ai) (od:Option aq) (kV doc pm:ai) (an:Option aq) (ct:ai) (qy:Array (Option ai)),fd=fnOf x qual (fW st) (eC st) (aP st) (.ref dt) kV doc pm an (.ref c) ct/\K.lookup f=some ⟨oc,od,.func fd,qy⟩/\codeIn K (.ref c) qual=true
 kp:keepIn K (.ref f)=true
structure Nt (K:Φ) (x qual:Str) (st:Stmt) (f:aq) (fd:FuncData) (c:aq):Prop where
 ex:∃(oc:ai) (od:Option aq) (dV kV doc pm:ai) (an:Option aq) (ct:ai) (qy:Array (Option ai)),fd=fnOf x qual (fW st) (eC st) (aP st) dV kV doc pm an (.ref c) ct/\K.lookup f=some ⟨oc,od,.func fd,qy⟩/\codeIn K (.ref c) qual=true
 kp:keepIn K (.ref f)=true
inductive Tld where
 |sg (s:Aab) (t:Int)
 |tr (t:Int) (s:Aab)
def xl (H:Hp) (v:V):Tld->Prop
 | .sg s t=>∃a b,v=.ref a/\H a=some (.tup [.str "seating",.ref b,.int t])/\H b=some (.tup (s.map V.str))
 | .tr t s=>∃a b,v=.ref a/\H a=some (.tup [.str "trim",.int t,.ref b])/\H b=some (.tup (s.map V.str))
def xl.up {H}(h:xl H v r) (s:∀b xs,H b=some (.tup xs)->H' b=some (.tup xs)):xl H' v r:=by
 cases r with
 |sg x t=>obtain⟨a,b,e,h1,h2⟩:=h;exact⟨a,b,e,s _ _ h1,s _ _ h2⟩
 |tr t x=>obtain⟨a,b,e,h1,h2⟩:=h;exact⟨a,b,e,s _ _ h1,s _ _ h2⟩
abbrev E2 (rows:List jN):List (Aab):=FO (eO rows) 2
def Yh (rows:List jN) (most:Int) (s:Aab):Bool:=decide (tJ (jO rows s)<=most)
def qX (rows:List jN) (most:Int) (r:Tld):Prop:=(∃s,(E2 rows).find? (Yh rows most)=some s/\r=.sg s (jO rows s))\/ ((E2 rows).find? (Yh rows most)=none/\∃s∈E2 rows,(∀s'∈E2 rows,cT (tJ (jO rows s'),s') (tJ (jO rows s),s)=false)/\r=.tr (tJ (jO rows s)) s)
def vp (h1:cT a b=false) (h2:cT b a=false):a=b:=by
 unfold cT at h1 h2;have e1:a.1=b.1:=by
  by_cases c:a.1=b.1
  .exact c
  .rw[aI c] at h1;rw[aI (λz=>c z.symm)] at h2;have:=oC h1;have:=oC h2;omega
 rw[aJ e1] at h1;rw[aJ e1.symm] at h2;have e2:a.2=b.2:=by
  by_cases c:a.2=b.2
  .exact c
  .rcases uL c with q|q
   .rw[q] at h1;cases h1
   .rw[q] at h2;cases h2
 exact vH e1 e2
def AK (ra:qX rows most r) (rb:qX rows most r'):r=r':=by
 rcases ra with⟨s,h,rfl⟩|⟨h,s,hs,m,rfl⟩
 .rcases rb with⟨t,k,rfl⟩|⟨k,_⟩
  .rw[h] at k;cases k;rfl
  .rw[h] at k;cases k
 .rcases rb with⟨t,k,_⟩|⟨_,t,ht,n,rfl⟩
  .rw[h] at k;cases k
  .have e:t=s:=dA Prod.snd (vp (m t ht) (n s hs));rw[e]
structure In (H:Hp) (a g:aq) (rows:List jN) (sU:Aab):Prop where
 rw:sS H a rows
 b:Rb rows
 rg:H g=some (.tup (sU.map V.str))
 l2:sU.length=2
def In.same {H}(h:In H a g rows sU) (s:bc H H'):In H' a g rows sU:=⟨h.rw.same s,h.b,s _ _ h.rg,h.l2⟩
def In.keep {H}(h:In H a g rows sU) (t:TabAt H Pt ps q) (k:cX Pt H H'):In H' a g rows sU:=by obtain⟨us,h1,h2⟩:=h.rw;exact⟨⟨us,k _ _ (Tab.ne t h1 λ_ z=>nomatch z) h1,acM h2 λ_ _ z=>z.up λb xs e=>k _ _ (Tab.ne t e λ_ z=>nomatch z) e⟩,h.b,k _ _ (Tab.ne t h.rg λ_ z=>nomatch z) h.rg,h.l2⟩
def Nu (H:Hp) (v:V) (p:Aab×Int):Prop:=∃a b,v=.ref a/\H a=some (.tup [.ref b,.int p.2])/\H b=some (.tup (p.1.map V.str))
def Nu.up {H}(h:Nu H v p) (s:∀b xs,H b=some (.tup xs)->H' b=some (.tup xs)):Nu H' v p:=by obtain⟨a,b,e,h1,h2⟩:=h;exact⟨a,b,e,s _ _ h1,s _ _ h2⟩
def Yi:Aac->Hp->VK->Prop:=λxs H Q=>∃i,xs=[.int i]/\Q (.int (if i<0 then-i else i)) H
def abL:TE:=u_ (dF (VE Yi (dF (oH hE (vC 0) (tC (.int 1))) gk)) (dF (oH hE (vC 0) (tC (.int 0))) gk))
def abM:List (Str×NameKind):=[(".0",.local),("seating",.local),("trim_of",.globalImplicit),("rig",.free),("rowers",.free)]
def Yj:∀y∈([("pair",.local),("abs",.globalImplicit)]:List (Str×NameKind)),y.2≠.free:=η
def abN:(["seating","rowers","rig"]:Aab).Nodup:=η
inductive SeI (Pt:aq) (H:Hp) (Q:VK):Aac->Prop
 |mk {a g:aq} {rows:List jN} {sU:Aab} {most:Int} (h:In H a g rows sU) (t:Tab H Pt) (q:∀r v H',cX Pt H H'->Tab H' Pt->qX rows most r->xl H' v r->Q v H'):SeI Pt H Q [.ref a,.ref g,.int most]
def SeC (Pt:aq):Sp:=λvs H Q _=>SeI Pt H Q vs
def AJ.ok {st}(F:AJ K x qual st f fd c dt) (S:bx N ps (aP st)) (len:∀vs H Q E,sp vs H Q E->vs.length=ps.length) (iS:∀(A:bL) (outer:List Env) (s:ar) (H:Hp) (vs:Aac) (Q:VK) (E:XK),eS k (A.deeper (Ψ qual (aP st) s.heap.objs.size f (.ref c)))->sp vs H Q E-> ∃t,su (jC fK P w K mg base N qual (aP st) f (.ref c) A outer s H E).Bk (eC st) t/\t {nx:=λ_ H'=>Q .e_ H',rt:=Q} (start N vs) H):cG P w K mg base fK (k+1) f fd ps sp:=by obtain⟨oc,od,kV,doc,pm,an,ct,qy,rfl,lk,mX⟩:=F.ex;refine C3 lk mX S len λA outer s H vs Q E hr C4=>?_;obtain⟨t,h,q⟩:=iS A outer s H vs Q E hr C4;exact⟨t,h.Bk,q⟩
def Nt.ok {st}(F:Nt K x qual st f fd c) (S:bx N ps (aP st)) (len:∀vs H Q E,sp vs H Q E->vs.length=ps.length) (iS:∀(A:bL) (outer:List Env) (s:ar) (H:Hp) (vs:Aac) (Q:VK) (E:XK),eS k (A.deeper (Ψ qual (aP st) s.heap.objs.size f (.ref c)))->sp vs H Q E-> ∃t,su (jC fK P w K mg base N qual (aP st) f (.ref c) A outer s H E).Bk (eC st) t/\t {nx:=λ_ H'=>Q .e_ H',rt:=Q} (start N vs) H):cG P w K mg base fK (k+1) f fd ps sp:=by obtain⟨oc,od,dV,kV,doc,pm,an,ct,qy,rfl,lk,mX⟩:=F.ex;refine C3 lk mX S len λA outer s H vs Q E hr C4=>?_;obtain⟨t,h,q⟩:=iS A outer s H vs Q E hr C4;exact⟨t,h.Bk,q⟩
def SQ (F:AJ K "seated" "seated" Nq f fd c dt) (T:Txt mg) (C:CodeHd base c Pt) (B:tz base mg) (DE:Df P w K mg base 2 "every_seating" ["rowers","rig"] SE) (DT:Df P w K mg base 2 "trim_of" ["rowers","rig","seating"] D_):cG P w K mg base fK 4 f fd ["rowers","rig","most"] (SeC Pt):=by
 have sc:bx ["rowers","rig","most","found","seating","trim","nearest"] ["rowers","rig","most"] (aP Nq):={};refine F.ok sc (λvs H Q E h=>by cases h;rfl) (λA outer s H vs Q E hr h=>?_);have AG:=hr.mono (j:=2) δ;refine⟨_,az (ny (i0:=3) (N:=["seating","rowers","rig"]) (g:=d_ 0) sc.nd rfl (Or.inl rfl) rfl (om K (pD DE AG (ae (pC 0) (ae (pC 1) aj)))) (cY.Mg ["seating"] (fr:="rowers") (fs:="rig") (j:=0) (k:=1) (nm:=abM) rfl rfl rfl rfl (.inl rfl) (.inl rfl) η η η η η η η) (λ_ _ _=>aM (i:=0) abN) (λ_ _ _=>eD) (λ_ _ _=>jx (ae (pC 0) (ae (pD DT AG (ae (pC 1) (ae (pC 2) (ae (pC 0) aj)))) aj)))) (az (gI (ib (D6 3 (pC 3))) dJ cj) (az (gy bz rfl (om K (pC 3)) (rY 2 (gY (aM (i:=4) sc.nd) (gY (aM (i:=5) sc.nd) rX))) (aO (gI (fG (oK qw) (bj lB rfl T.abs j9 (ae (pC 5) aj)) (pC 2) (cO _)) (aO (bK (jx (ae f_ (ae (pC 4) (ae (pC 5) aj)))))) cj))) (az (iP (Mf (k:=1) (c:=c) (Pt:=Pt) (q:=Yf) (N:=["pair"]) (x:="pair") (vD:=abL) rfl rfl T.min hr rfl C B rfl rfl (fO λy hy e=>absurd e (Yj y hy)) {} (λ_ _ _ _ _=>.of_eq rfl) (λf c A outer s H hr=>jx (ae (bj lB rfl T.abs j9 (ae (bW eV (pC 0) aH) aj)) (ae (bW eV (pC 0) aH) aj))) (pC 3)) (rY 2 (gY (aM (i:=6) sc.nd) (gY (aM (i:=5) sc.nd) rX)))) (aO (bK (jx (ae f_ (ae (bj lB rfl T.abs j9 (ae (pC 5) aj)) (ae (pC 6) aj))))))))),?_⟩;obtain @⟨a,g,rows,sU,most,hI,tb,q⟩:=h;have l6:(eO rows).length<=6:=by rw[ot];exact hI.b.l6
 refine Nj.mk hI.rw hI.b hI.rg hI.l2 λle us H1 s1 hle hT=>mZ.mk hle λD hD=>?_;have lu:us.length=(E2 rows).length:=ee hT;have h36:(E2 rows).length<=36:=yI l6 2;refine Gi (xs:=us) Nu (λs=>(s,jO rows s)) (λU=>∃v,U=[v,some (.ref a),some (.ref g)]) hD (wa hle) hT ω ⟨_,rfl⟩ (λ_ _ _ _ t h=>h.up t) ?_ λys J sj hy pr=>?_
 .rintro U M x s Y ⟨_,rfl⟩ sM ⟨p,rfl,hp⟩ hs hY;have hIM:=hI.same (s1.trans sM);refine D9.mk hIM.rw hI.b hIM.rg hI.l2 (sM _ _ hp) (kK hs).2 (kK hs).1 λM2 s2=>cU.mk rfl λt M3 s3 w3 n3=>hY _ _ _ ⟨_,rfl⟩ (s2.trans s3) ⟨t,p,rfl,w3,(s2.trans s3) _ _ (sM _ _ hp)⟩
 have sJ:=s1.trans sj;have SR:=tb.same sJ;have lp:ys.length=(E2 rows).length:=by rw[ee pr,ah]
 have ne:ys≠[]:=λz=>Pd hI.b (fH.mp (by rw[<-lp,z];rfl));have at':∀(i:Nat) v,ys[i]?=some v->∃s b t,(E2 rows)[i]?=some s/\s∈E2 rows/\v=.ref b/\J b=some (.tup [.ref t,.int (jO rows s)])/\J t=some (.tup (s.map V.str)):=λi v h=>by obtain⟨p,e,b,t,h1,h2,h3⟩:=je pr i v h;rw[aR] at e;obtain⟨s,hs,rfl⟩:=cw.mp e;exact⟨s,b,t,hs,aY hs,h1,h2,h3⟩
 refine FJ.mk hy ?_;rw[show ys.isEmpty=false by cases ys with|nil=>exact absurd rfl ne|cons x l=>rfl];refine mZ.mk hy (lN (λi U M=>(∃v4 v5 v6,U=[some (.ref a),some (.ref g),some (.int most),some (.ref D),v4,v5,v6])/\M=J/\((E2 rows).take i).find? (Yh rows most)=none) ⟨⟨_,_,_,rfl⟩,rfl,rfl⟩ (λi U M ⟨_,e,_⟩=>e▸hy) ?_ ?_)
 .rintro i x U M D' hx ⟨⟨_,_,_,rfl⟩,rfl,no⟩ ⟨nx,rt,_⟩;obtain⟨s,b,t,hs,hm,rfl,e1,e2⟩:=at' i x hx;refine pT.mk e1 rfl ⟨_,rfl,Mv (λc=>?_) λc=>?_⟩
  .refine cU.mk rfl λt2 M2 s2 w2 n2=>rt _ _ (q (.sg s (jO rows s)) _ _ (sJ.trans s2).keep (SR.same s2) (.inl ⟨s,?_,rfl⟩) ⟨t2,t,rfl,w2,s2 _ _ e2⟩);obtain⟨hi,es⟩:=aF.mp hs;have e:E2 rows=(E2 rows).take i++s::(E2 rows).drop (i+1):=by rw[<-es,Vh,fw]
   rw[e,List.find?_append,no,Option.none_or,gD,show Yh rows most s=true from aZ c]
  .refine nx _ _ ⟨⟨_,_,_,rfl⟩,rfl,?_⟩;rw[bM,hs,List.find?_append,no,Option.none_or];show List.find? _ [s]=none;rw[gD,show Yh rows most s=false from bw c];rfl
 rintro U M ⟨⟨_,_,_,rfl⟩,rfl,no⟩;rw[lp,bX] at no;have k36:∀(i:Nat) v k,ys[i]?=some v->((E2 rows).map λs=>(tJ (jO rows s),s))[i]?=some k->∃s b t,k=(tJ (jO rows s),s)/\s∈E2 rows/\v=.ref b/\M b=some (.tup [.ref t,.int (jO rows s)])/\M t=some (.tup (s.map V.str)):=λi v k h hk=>by obtain⟨s,b,t,hs,h1⟩:=at' i v h;rw[aR,hs] at hk;exact⟨s,b,t,(bf hk).symm,h1⟩
 refine⟨D,ys,(E2 rows).map λs=>(tJ (jO rows s),s),rfl,hy,ne,by rw[ah];exact lp,λk hk z hz=>?_,SR,Tab.ne SR hy (λ_ z=>nomatch z),λi v k H3 hv hk kp=>?_,λi v k H3 hv hk best kp tb3=>?_⟩
 .obtain⟨s,hs,rfl⟩:=br.mp hk;exact hI.b.so z ((kK hs).1 z hz)
 .obtain⟨s,b,t,rfl,hm,rfl,e1,e2⟩:=k36 i v k hv hk;have UA:=kp _ _ (Tab.ne SR e1 λ_ z=>nomatch z) e1;have Dc:=kp _ _ (Tab.ne SR e2 λ_ z=>nomatch z) e2;exact hE.mk UA (a_ (j:=1) rfl) ⟨_,rfl,hE.mk UA (a_ (j:=0) rfl) (cU.mk rfl λt2 M2 s2 w2 n2=>⟨s2,t2,t,rfl,w2,s2 _ _ Dc⟩)⟩
 .obtain⟨s,b,t,rfl,hm,rfl,e1,e2⟩:=k36 i v k hv hk;have UA:=kp _ _ (Tab.ne SR e1 λ_ z=>nomatch z) e1;have Dc:=kp _ _ (Tab.ne SR e2 λ_ z=>nomatch z) e2;refine pT.mk UA rfl ⟨_,rfl,cU.mk rfl λt2 M2 s2 w2 n2=>q (.tr (tJ (jO rows s)) s) _ _ (λb o n e=>s2 _ _ (kp _ _ n (sJ _ _ e))) (tb3.same s2) (.inr ⟨no,s,hm,λs' hs=>best _ (br.mpr ⟨s',hs,rfl⟩),rfl⟩) ⟨t2,t,rfl,w2,s2 _ _ Dc⟩⟩
def Kr (s t:Aab):List Nat:=s.zipIdx.filterMap λp=>if t.getD p.2 ""=p.1 then none else some p.2
def AL {s}(h:s.length=2):Kr s s=[]:=by
 match s,h with
 | [a,b],_=>simp[Kr,List.zipIdx]
def Jl {s}(h:s.length=2) (k:t.length=2) (e:(Kr s t).length=0):t=s:=by
 match s,t,h,k with
 | [a,b],[c,d],_,_=>
  have e:=fH.mp e;unfold Kr at e;by_cases c1:c=a
  .by_cases c2:d=b
   .rw[c1,c2]
   .simp[List.zipIdx,c1,c2] at e
  .simp[List.zipIdx,c1] at e
inductive MvI (H:Hp) (Q:VK):Aac->Prop
 |mk {a b:aq} {s t:Aab} (ha:H a=some (.tup (s.map V.str))) (hb:H b=some (.tup (t.map V.str))) (ls:s.length=2) (lt:t.length=2) (q:∀M,bc H M->Q (.int (Kr s t).length) M):MvI H Q [.ref a,.ref b]
def MvC:Sp:=λvs H Q _=>MvI H Q vs
inductive RsI (Pt:aq) (H:Hp) (Q:VK):Aac->Prop
 |mk {a g t b:aq} {rows:List jN} {sU s:Aab} (h:In H a g rows sU) (tb:yJ H Pt) (ht:H t=some (.tup (s.map V.str))) (hs:s∈E2 rows) (hb:H b=some (.lst [])) (q:∀r u M,cX Pt H M->yJ M Pt->M r=some (.tup [.int 0,.ref u])->M u=some (.tup (s.map V.str))->Q (.ref r) M):RsI Pt H Q [.ref a,.ref g,.ref t,.ref b]
def RsC (Pt:aq):Sp:=λvs H Q _=>RsI Pt H Q vs
def abO:List (Str×NameKind):=[(".0",.local),("seat",.local),("name",.local),("other",.free)]
def Yk:(["seat","name","other"]:Aab).Nodup:=η
def Yl:List (Str×NameKind):=[(".0",.local),("rower",.local),("absent",.free)]
def Ym:List (Str×NameKind):=[(".0",.local),("other",.local),("moved_seats",.globalImplicit),("seating",.free)]
def Yn:List (Str×NameKind):=[(".0",.local),("other",.local),("moved_seats",.globalImplicit),("fewest",.free),("seating",.free)]
def Yo:List (Str×NameKind):=[("other",.local),("others",.free),("rig",.free),("abs",.globalImplicit),("trim_of",.globalImplicit)]
def Yp:(["rower","absent"]:Aab).Nodup:=η
def Yq:(["other","seating"]:Aab).Nodup:=η
def Yr:(["other","seating","fewest"]:Aab).Nodup:=η
def Ys:TE:=u_ (dF (VE Yi (dF (o_ D_ E0 (dF (vC 1) (dF (vC 2) (dF (vC 0) gk)))) gk)) (dF (vC 0) gk))
def nRs:Aab:=["rowers","rig","seating","absent","others","found","fewest","nearest"]
def SS (F:gX K "moved_seats" "moved_seats" sMv f fd) (T:Txt mg):cG P w K mg base fK 1 f fd ["seating","other"] MvC:=by
 have sc:bx ["seating","other"] ["seating","other"] (aP sMv):={};exists sc;refine⟨_,aO (bK (bj mw rfl T.len bY (ae (gm (N:=["seat","name","other"]) rfl (X8 K rfl T.enum (ae (pC 0) aj)) (cY.Fm ["seat","name"] (fr:="other") (j:=1) (nm:=abO) rfl rfl rfl (.inl rfl) η η η η η) (λ_ _ _=>rY 2 (gY (aM (i:=0) Yk) (gY (aM (i:=1) Yk) rX))) (λ_ _ _=>gK (fG oN (bW eV (pC 2) (pC 0)) (pC 1) (cO _))) (λ_ _ _=>pC 0)) aj))),?_⟩;obtain @⟨a,b,ss,tt,ha,hb,ls,lt,q⟩:=h;refine EtK.mk ha λL hL=>lcE (λ_ v (b:Nat)=>v=.int b) (λi n=>if tt.getD i ""=n then none else some i) (λU=>∃x y,U=[x,y,some (.ref b)]) hL ha kI (by rw[ah];omega) ⟨_,_,rfl⟩ (λ_ _ _ _ _ e=>e) ?_ λys M s w pr=>kj.l w ?_
 .rintro U M T i x n N Y ⟨_,_,rfl⟩ s hT rfl hn hN hY;have hi:i<tt.length:=by have:=(aF.mp hn).1;omega
  refine pT.mk hT rfl (hE.mk (s _ _ hb) (a_ (j:=i) (v:=.str (tt.getD i "")) (by rw[aR,aw,ag hi];rfl)) ?_);show if(!decide (tt.getD i ""=n))=true then _ else _;by_cases c:tt.getD i ""=n
  .rw[aZ c];exact hN (aJ c) _ _ ⟨_,_,rfl⟩ (bc.refl _)
  .rw[bw c];exact hY _ _ _ _ (aI c) ⟨_,_,rfl⟩ (bc.refl _) rfl
 .rw[ee pr];exact q M s
def SU (F:Nt K "reseated" "reseated" Kq f fd c) (T:Txt mg) (C:CodeHd base c Pt) (B:tz base mg) (DE:Df P w K mg base 2 "every_seating" ["rowers","rig"] SE) (DT:Df P w K mg base 2 "trim_of" ["rowers","rig","seating"] D_) (DM:Df P w K mg base 1 "moved_seats" ["seating","other"] MvC):cG P w K mg base fK 5 f fd ["rowers","rig","seating","absent"] (RsC Pt):=by
 have sc:bx nRs ["rowers","rig","seating","absent"] (aP Kq):={};refine F.ok sc (λvs H Q E h=>by cases h;rfl) (λA outer s H vs Q E hr h=>?_);have AG:=hr.mono (j:=2) δ;have vo:=hr.mono (j:=1) δ;refine⟨_,az (kR (i:=4) sc.nd rfl (Or.inr rfl) (gm (N:=["rower","absent"]) (g:=d_ 0) rfl (om K (pC 0)) (cY.Fm ["rower"] (fr:="absent") (j:=3) (nm:=Yl) rfl rfl rfl (.inl rfl) η η η η η) (λ_ _ _=>aM (i:=0) Yp) (λ_ _ _=>gK (fG RI (bW eV (pC 0) aH) (pC 1) rfl)) (λ_ _ _=>pC 0))) (az (iQ (i:=5) sc.nd (pD DE AG (ae (pC 4) (ae (pC 1) aj)))) (az (gI (ib (D6 5 (pC 5))) dJ cj) (az (kR (i:=6) sc.nd rfl (Or.inr rfl) (bj Ya rfl T.min ur (ae (gm (N:=["other","seating"]) (g:=d_ 0) rfl (om K (pC 5)) (cY.Fm ["other"] (fr:="seating") (j:=2) (nm:=Ym) rfl rfl rfl (.inl rfl) η η η η η) (λ_ _ _=>aM (i:=0) Yq) (λ_ _ _=>eD) (λ_ _ _=>pD DM vo (ae (pC 1) (ae (pC 0) aj)))) aj))) (az (ny (i0:=7) (N:=["other","seating","fewest"]) (g:=d_ 0) sc.nd rfl (Or.inl rfl) rfl (om K (pC 5)) (cY.Mg ["other"] (fr:="seating") (fs:="fewest") (j:=2) (k:=6) (nm:=Yn) rfl rfl rfl rfl (.inl rfl) (.inl rfl) η η η η η η η) (λ_ _ _=>aM (i:=0) Yr) (λ_ _ _=>gK (fG oQ (pD DM vo (ae (pC 1) (ae (pC 0) aj))) (pC 2) (cO _))) (λ_ _ _=>pC 0)) (aO (bK (jx (ae (pC 6) (ae (Jk (k:=2) (c:=c) (Pt:=Pt) (q:=Yg) (N:=["others","rig"]) (x:="other") (r:=[some 4,some 1]) (vD:=Ys) rfl rfl T.min hr rfl C B rfl rfl (cY.Mg ["other"] (fr:="others") (fs:="rig") (j:=4) (k:=1) (nm:=Yo) rfl rfl rfl rfl (.inl rfl) (.inl rfl) η η η η η η η) rfl rfl rfl (λ_ _ _ _ _=>.of_eq rfl) (λf c A outer s H hr=>jx (ae (bj lB rfl T.abs j9 (ae (pD DT (hr.mono δ) (ae (pC 1) (ae (pC 2) (ae (pC 0) aj)))) aj)) (ae (pC 0) aj))) (pC 7)) aj))))))))),?_⟩;obtain @⟨a,g,t,b,rows,sU,ss,hI,tb,ht,hs,hb,q⟩:=h;obtain⟨us,hu,pr⟩:=hI.rw;have lu:us.length=rows.length:=ee pr;have l6:=hI.b.l6;have n6:(eO rows).length<=6:=by rw[ot];exact l6
 have h36:(E2 rows).length<=36:=yI n6 2;have s2:=(kK hs).2;refine mZ.mk hu λO hO=>Kn gZ some (λU=>∃v,U=[v,some (.ref b)]) hO (wa hu) pr ω ⟨_,rfl⟩ (λ_ _ _ _ t h=>h.up t) ?_ λzs M1 s1 w1 Yt=>?_
 .rintro U M x r N Y ⟨_,rfl⟩ s ⟨p,rfl,hp⟩ hm hN hY;exact hE.mk (s _ _ hp) (a_ (j:=0) rfl) (My.l (s _ _ hb) rfl rfl (hY _ _ _ _ rfl ⟨_,rfl⟩ (bc.refl _) ⟨p,rfl,s _ _ hp⟩))
 rw[List.filterMap_some] at Yt;have hO1:sS M1 O rows:=⟨zs,w1,Yt⟩;refine Nj.mk hO1 hI.b (s1 _ _ hI.rg) hI.l2 λle SV M2 s2' hle hT=>?_;have lE:SV.length=(E2 rows).length:=ee hT;have ne:SV≠[]:=λz=>Pd hI.b (fH.mp (by rw[<-lE,z];rfl));refine FJ.mk hle ?_;rw[show SV.isEmpty=false by cases SV with|nil=>exact absurd rfl ne|cons x l=>rfl];have oW:=s1.trans s2';refine mZ.mk hle λD hD=>Gi (xs:=SV) (λ_ v (i:Int)=>v=.int i) (λx=>((Kr ss x).length:Int)) (λU=>∃v,U=[v,some (.ref t)]) hD (wa hle) hT ω ⟨_,rfl⟩ (λ_ _ _ _ _ e=>e) ?_ λys M3 s3 w3 pr3=>?_
 .rintro U M v x Y ⟨_,rfl⟩ s ⟨p,rfl,hp⟩ hx hY;exact MvI.mk ((oW.trans s) _ _ ht) (s _ _ hp) s2 (kK hx).2 λN sN=>hY _ _ _ ⟨_,rfl⟩ sN rfl
 rw[pairE pr3] at w3;refine SD.mk w3 (by rw[ah];exact kD hs) λm hm abP=>?_;obtain rfl:m=0:=by have h0:=abP 0 (br.mpr ⟨ss,hs,by rw[AL s2];rfl⟩);obtain⟨x,_,e⟩:=br.mp hm;omega
 have Yu:=s3 _ _ hle;have zU:=oW.trans s3;refine mZ.mk Yu λD2 MW=>Kn (xs:=SV) (as:=E2 rows) TupAt (λx=>if(Kr ss x).length=0 then some x else none) (λU=>∃v,U=[v,some (.ref t),some (.int 0)]) MW (wa Yu) (acM hT λ_ _ z=>z.up λ_ _ e=>s3 _ _ e) ω ⟨_,rfl⟩ (λ_ _ _ _ t h=>h.up t) ?_ λns M4 s4 w4 pr4=>?_
 .rintro U M v x N Y ⟨_,rfl⟩ s ⟨p,rfl,hp⟩ hx hN hY;refine MvI.mk ((zU.trans s) _ _ ht) (s _ _ hp) s2 (kK hx).2 λN2 sN=>?_;show if decide (((Kr ss x).length:Int)=0)=true then _ else _;by_cases c:(Kr ss x).length=0
  .rw[aZ ω];exact hY _ _ _ _ (aJ c) ⟨_,rfl⟩ sN ⟨p,rfl,sN _ _ (s _ _ hp)⟩
  .rw[bw ω];exact hN (aI c) _ _ ⟨_,rfl⟩ sN
 have Dm:=zU.trans s4;have Nv:=tb.same Dm;have mem:∀x∈(E2 rows).filterMap (λx=>if(Kr ss x).length=0 then some x else none),x=ss:=λx hx=>by
  obtain⟨y,hy,e⟩:=di.mp hx;split at e
  .cases e;exact Jl s2 (kK hy).2 (by assumption)
  .cases e
 have at':∀(i:Nat) v,ns[i]?=some v->∃p,v=.ref p/\M4 p=some (.tup (ss.map V.str)):=λi v h=>by obtain⟨x,e,p,h1,h2⟩:=je pr4 i v h;rw[mem x (aY e)] at h2;exact⟨p,h1,h2⟩
 have ln:0<ns.length:=by rw[ee pr4];exact kD (di.mpr ⟨ss,hs,aJ (by rw[AL s2];rfl)⟩)
 have hIO:In M4 O g rows sU:=In.same ⟨hO1,hI.b,s1 _ _ hI.rg,hI.l2⟩ ((s2'.trans s3).trans s4);refine⟨D2,ns,ns.map λ_=>(tJ (jO rows ss),ss),rfl,w4,λz=>by rw[z] at ln;exact absurd ln (cD 0),(ah _).symm,λk hk z hz=>?_,Nv,Tab.ne Nv w4 (λ_ z=>nomatch z),λi v k H3 hv hk kp=>?_,λi v k H3 hv hk best kp tb3=>?_⟩
 .obtain⟨_,_,rfl⟩:=br.mp hk;exact hI.b.so z ((kK hs).1 z hz)
 .rw[aR,hv] at hk;cases hk;obtain⟨p,rfl,h2⟩:=at' i v hv;have Ke:=kp _ _ (Tab.ne Nv h2 λ_ z=>nomatch z) h2;have hI3:=hIO.keep Nv kp;exact D9.mk hI3.rw hI.b hI3.rg hI.l2 Ke s2 (kK hs).1 λN sN=>⟨_,rfl,cU.mk rfl λt2 M5 s5 w5 n5=>⟨sN.trans s5,t2,p,rfl,w5,(sN.trans s5) _ _ Ke⟩⟩
 .obtain⟨p,rfl,h2⟩:=at' i v hv;have Ke:=kp _ _ (Tab.ne Nv h2 λ_ z=>nomatch z) h2;exact cU.mk rfl λt2 M5 s5 w5 n5=>q t2 p _ (λb o n e=>s5 _ _ (kp _ _ n (Dm _ _ e))) (tb3.same s5) w5 (s5 _ _ Ke)
end
abbrev Td:=Str×Str×Int×Int
def Pg (H:Hp) (u:V) (t:Td):Prop:=∃p q,u=.ref p/\H p=some (.tup [.str t.1,.str t.2.1,.ref q])/\H q=some (.tup [.int t.2.2.1,.int t.2.2.2])
def TK (H H':Hp):Prop:=∀b xs,H b=some (.tup xs)->H' b=some (.tup xs)
def bc.tk {H}(h:bc H H'):TK H H':=λb xs e=>h b _ e
def Pg.mono {H}(h:Pg H u t) (k:TK H H'):Pg H' u t:=let⟨p,q,e,h1,h2⟩:=h;⟨p,q,e,k _ _ h1,k _ _ h2⟩
abbrev r_ (H:Hp):Aac->List Td->Prop:=Paired (Pg H)
def r_.mono {H}(h:r_ H us ts) (k:TK H H'):r_ H' us ts:=Paired.y9 h λ_ _ z=>z.mono k
section
variable {κ:Type}[DecidableEq κ]
def nM:∀{ks us:List κ},ks.Nodup->(∀k∈ks,k∈us)->ks.length<=us.length
 | [],_,_,_=>bH _
 |k::ks,us,nd,sub=>by have hk:k∈us:=sub k bT;have OU:=hJ.mp nd;have ih:=nM (ks:=ks) (us:=us.erase k) OU.2 λx hx=>(List.mem_erase_of_ne (λz:x=k=>OU.1 (z▸hx))).mpr (sub x (bJ _ hx));rw[PY hk] at ih;have:0<us.length:=kD hk;simp only[bE];omega
def mz {ks:List κ}{k:κ}(nd:ks.Nodup) (h:¬k∈ks):(ks++ [k]).Nodup:=by rw[fg];exact⟨nd,ς,λa ha b hb z=>h (by rw[<-aK.mp hb,<-z];exact ha)⟩
end
def A2 (q:Int×Int):Prop:=0<=q.1/\q.1<=2000000000000000000/\0<q.2/\q.2<=1000000000000000000
def A3 (g:Str->Str->Int) (f:Str) (o:Aab):Int:=(o.map (g f)).sum
def cost (g:Str->Str->Int):Aab->Int
 | []=>0
 |f::o=>cost g o+A3 g f o
def Jm {l m:List Int}(h:l.Perm m):l.sum=m.sum:=by
 induction h with
 |nil=>rfl
 |cons x _ ih=>rw[jJ,jJ,ih]
 |swap x y l=>rw[jJ,jJ,jJ,jJ];omega
 |trans _ _ h1 h2=>exact h1.trans h2
def Jn (h:o.Perm p):A3 g f o=A3 g f p:=Jm (h.map _)
def Cy (h:a≠b):cT a b=true\/cT b a=true:=by
 unfold cT;by_cases e:a.1=b.1
 .rw[aJ e,aJ e.symm];exact uL λz=>h (vH e z)
 .rw[aI e,aI (λz=>e z.symm)];rcases Int.lt_or_gt_of_ne e with z|z
  .exact .inl (aZ z)
  .exact .inr (aZ z)
def Cz (h1:cT a b=false) (h2:cT b c=false):cT a c=false:=by
 by_cases e:b=c
 .rw[<-e];exact h1
 .cases hc:cT a c with
  |false=>rfl
  |true=>
   rcases Cy e with z|z
   .rw[h2] at z;cases z
   .rw[iW hc z] at h1;cases h1
structure oZ (g:Str->Str->Int) (jf:Aab) (n:Int) (o:Aab):Prop where
 perm:o.Perm jf
 val:n=cost g o
 min:∀p:Aab,p.Perm jf->cT (cost g p,p) (n,o)=false
def oZ.empty (g:Str->Str->Int):oZ g [] 0 []:=⟨.nil,rfl,λp hp=>by rw[Ew hp];rfl⟩
def si (f:Str) (l:Aab):Aab:=l.filter λx=>!decide (x=f)
def SW (f:Str) (l:Aab) (nd:l.Nodup):si f l=l.erase f:=by rw[List.Nodup.erase_eq_filter nd];unfold si;congr 1
def AM {l:Aab}(nd:l.Nodup) (h:f∈l):l.Perm (f::si f l):=by rw[SW f l nd];exact List.perm_cons_erase h
def oZ.step {g:Str->Str->Int}{jf:Aab}(nd:jf.Nodup) (ne:jf≠[]) {cs:Str->Int×Aab}(hb:∀f∈jf,oZ g (si f jf) (cs f).1 (cs f).2) {e:Str}(he:e∈jf) (hm:∀f∈jf,cT ((cs f).1+A3 g f (cs f).2,f::(cs f).2) ((cs e).1+A3 g e (cs e).2,e::(cs e).2)=false):oZ g jf ((cs e).1+A3 g e (cs e).2) (e::(cs e).2) where
 perm:=((hb e he).perm.cons e).trans (AM nd he).symm
 val:=by rw[(hb e he).val];rfl
 min:=λp hp=>by
  cases p with
  |nil=>exact absurd (Ew hp.symm) ne
  |cons f q=>
   have hf:f∈jf:=hp.mem_iff.mp bT;have hq:q.Perm (si f jf):=List.Perm.cons_inv (hp.trans (AM nd hf));have h1:=(hb f hf).min q hq;refine Cz ?_ (hm f hf);have ea:A3 g f q=A3 g f (cs f).2:=Jn (hq.trans (hb f hf).perm.symm);show cT (cost g q+A3 g f q,f::q) _=false;rw[ea];unfold cT at h1⊢;by_cases z:cost g q=(cs f).1
   .rw[aJ (show(cost g q,q).1=((cs f).1,(cs f).2).1 from z)] at h1;rw[aJ (by show cost g q+_=(cs f).1+_;rw[z])];show mQ (f::q) (f::(cs f).2)=false;rw[jZ,aJ rfl];exact h1
   .rw[aI (show ¬(cost g q,q).1=((cs f).1,(cs f).2).1 from z)] at h1;rw[aI (by show ¬cost g q+_=(cs f).1+_;omega)];have:¬cost g q<(cs f).1:=oC h1;exact bw (by show ¬cost g q+_<(cs f).1+_;omega)
def fA (ns:Aab):List (Aab):=ns.foldl (λgs x=>gs++gs.map (· ++ [x])) [[]]
def jY (ns:Aab) (x:Str):fA (ns++ [x])=fA ns++(fA ns).map (· ++ [x]):=by unfold fA;rw[List.foldl_append];rfl
structure Grp (ns:Aab) (L:List (Aab)):Prop where
 z:L[0]?=some []
 len:L.length=2^ns.length
 top:ns∈L
 sub:∀i jf,L[i]?=some jf->jf.Nodup/\(∀x∈jf,x∈ns)/\(jf=[]->i=0)/\∀f∈jf,si f jf∈L.take i
def Jo (h:¬f∈l):si f l=l:=List.filter_eq_self.mpr λx hx=>by have:¬x=f:=λz=>h (z▸hx);simp[this]
def Nw (f:Str) (a b:Aab):si f (a++b)=si f a++si f b:=List.filter_append ..
def Nx (f:Str):si f [f]=[]:=by simp[si]
def FT (h:¬x=f):si f [x]=[x]:=by simp[si,h]
def FU (ns:Aab):ns.Nodup->Grp ns (fA ns):=by
 refine snoc_ind (p:=λns=>ns.Nodup->Grp ns (fA ns)) ?_ (λns x ih=>?_) ns
 .intro _;refine⟨rfl,rfl,aK.mpr rfl,λi jf h=>?_⟩;have:i=0:=by have:=(aF.mp h).1;simp[fA] at this;exact this
  subst this;cases h;exact⟨ς,ς,λ_=>rfl,ς⟩
 .intro nd;have OU:=fg.mp nd;have nx:¬x∈ns:=λh=>OU.2.2 x h x ς rfl;obtain⟨z,len,top,sub⟩:=ih OU.1;rw[jY];generalize fA ns=L at*;refine⟨?_,?_,?_,λi jf h=>?_⟩
  .rw[fq (aF.mp z).1];exact z
  .rw[aA,ah,len,aA,aE,Bg];omega
  .exact aD _ (br.mpr ⟨ns,top,rfl⟩)
  .by_cases hi:i<L.length
   .rw[fq hi] at h;obtain⟨h1,h2,h3,h4⟩:=sub i jf h;refine⟨h1,λy hy=>bh _ (h2 y hy),h3,λf hf=>?_⟩;rw[List.take_append_of_le_length (d7 hi)];exact h4 f hf
   .rw[dB ω,aR] at h;obtain⟨g0,hg,rfl⟩:=cw.mp h;obtain⟨h1,h2,h3,h4⟩:=sub (i-L.length) g0 hg;have hx:¬x∈g0:=λz=>nx (h2 x z);refine⟨mz h1 hx,λy hy=>?_,λe=>by simp at e,λf hf=>?_⟩
    .rcases aX.mp hy with q|q
     .exact bh _ (h2 y q)
     .exact aD _ q
    .rw[show i=L.length+(i-L.length) by omega,List.take_append,fQ ω,Nw];rcases aX.mp hf with q|q
     .have nf:¬x=f:=λy=>hx (y▸q);rw[FT nf];refine aD _ ?_;rw[<-qg,show L.length+(i-L.length)-L.length=i-L.length by omega];exact br.mpr ⟨_,h4 f q,rfl⟩
     .have e:=aK.mp q;subst e;rw[Nx,dU,Jo hx];exact bh _ (aY hg)
inductive G2I (i a b:Nat) (U:St) (H:Hp) (Q:VK):Prop
 |mk {d:aq} {kvs:List (List Key×V)} {x y:Str} (hi:gv U i=some (.ref d)) (ha:gv U a=some (.str x)) (hb:gv U b=some (.str y)) (h:H d=some (.dT kvs)) (q:∀M,bc H M->Q ((gP kvs [.inr x,.inr y]).getD (.int 0)) M):G2I i a b U H Q
def kG2 (i a b:Nat):TE:=λU H Q=>G2I i a b U H Q
inductive D0I (H:Hp) (Q:VK):Prop
 |mk (q:∀bd t0 l0 M,bc H M->H bd=none->M bd=some (.dT [([],.ref t0)])->M t0=some (.tup [.int 0,.ref l0])->M l0=some (.lst [])->Q (.ref bd) M):D0I H Q
def kD0:TE:=λ_ H Q=>D0I H Q
inductive SX (H:Hp) (Q:VK):Aac->Prop
 |mk {p:aq} {ts:List A1} (h:H p=some (.lst (ts.map λt=>V.ref t.t))) (n:ts≠[]) (ok:∀t∈ts,mR H t) (q:∀t∈ts,(∀u∈ts,cT u.key t.key=false)->Q (.ref t.t) H):SX H Q [.ref p]
def Yv:Aac->Hp->VK->Prop:=λvs H Q=>SX H Q vs
def Jp {U}{H}(hg:gv U i=some v) (q:Q v H):vC i U H Q:=by unfold vC;rw[hg];exact q
def Yw (hu:X.A.units+1<cLine) (ho:PE X o (vC i)) (he:PE X e (u_ (dF (vC a) (dF (vC b) gk)))) (hf:PE X f (tC (.int 0))) (m:M2 X o "get" apos e f iH):PE X (.Call (.Attribute o "get" apos) [e,f] [] iH) (kG2 i a b):=(Hx hu ho he hf m).wk λU H Q h=>by obtain @⟨d,kvs,x,y,hi,ha,hb,h,q⟩:=h;refine Jp hi ⟨d,rfl,.inr ⟨kvs,.inl h⟩,?_⟩;show vC a U H λv H1=>vC b U H1 λu H2=>cU (.tup [v,u]) 2 H2 λy H2=>tC (V.int 0) U H2 λz H3=>∃o,jc H3 d y o/\Q (o.getD z) H3;exact Jp ha (Jp hb (cU.mk rfl λp M s w n=>⟨_,jc.t (k:=[.inr x,.inr y]) (s _ _ h) w,q M s⟩))
def abQ (hu:X.A.units+1<cLine) (hk:PE X k (u_ gk)) (hv:PE X v (u_ (dF (tC (.int 0)) (dF (Fw gk) gk)))):PE X (.Dict [some k] [v] pos) kD0:=(zN hu hk hv (λ_ _ _ _ imp ⟨l,q⟩=>⟨l,λp M s e n=>let⟨l2,q2⟩:=q p M s e n;⟨l2,λp2 M2 s2 e2 n2=>imp _ _ (q2 p2 M2 s2 e2 n2)⟩⟩) (λ_ _ _ _ imp ⟨l,q⟩=>⟨l,λp M s e n=>imp _ _ (q p M s e n)⟩)).wk λU H Q ⟨q⟩=>by
  intro p hp;have s0:=bZ hp (.dT []);have w0:upd H p (.dT []) p=some (.dT []):=ba;refine cU.mk rfl λk M1 s1 w1 n1=>cU.mk rfl λl M2 s2 w2 n2=>cU.mk rfl λt M3 s3 w3 n3=>⟨[],k,rfl,s3 _ _ (s2 _ _ (s1 _ _ w0)),s3 _ _ (s2 _ _ w1),?_⟩;have d3:=s3 _ _ (s2 _ _ (s1 _ _ w0));refine q p t l _ (λy o e=>?_) hp ba ?_ ?_
  .rw[bN (λz=>by rw[z,hp] at e;cases e)];exact s3 _ _ (s2 _ _ (s1 _ _ (s0 _ _ e)))
  .rw[bN (λz=>by rw[z,d3] at w3;cases w3)];exact w3
  .rw[bN (λz=>by rw[<-z] at d3;rw[s3 _ _ w2] at d3;cases d3)];exact s3 _ _ w2
def Yx (hu:X.A.units+64<cLine) (hc:X.calm=true:=by rfl):dR X (.builtin "min") Yv:=(E5 hc hu).wk λx H Q q=>by
 cases q with
 |mk h n ok q=>exact⟨_,_,rfl,gj.of h,n,ok,q⟩
section
open PySem.W
abbrev SY:Stmt:=top 48
abbrev S0:Stmt:=top 49
abbrev S1:Stmt:=top 50
def abR:List (Str×NameKind):=[(".0",.local),("group",.local),("name",.free)]
def abS:(["group","name"]:Aab).Nodup:=η
def abT:List (Str×NameKind):=[(".0",.local),("name",.local),("first",.free)]
def abU:(["name","first"]:Aab).Nodup:=η
def Yy:List (Str×NameKind):=[(".0",.local),("name",.local),("first",.free),("gainsaid",.free)]
def Yz:(["name","first","gainsaid"]:Aab).Nodup:=η
def sV (ns:Aab):(fA ns).length=2^ns.length:=by refine snoc_ind (p:=λns=>(fA ns).length=2^ns.length) rfl (λns x ih=>?_) ns;rw[jY,aA,ah,ih,aA,aE,Bg];omega
def Ea (ns:Aab):∀g∈fA ns,g.length<=ns.length:=by
 refine snoc_ind (p:=λns=>∀g∈fA ns,g.length<=ns.length) ?_ (λns x ih=>?_) ns
 .intro g hg;rw[aK.mp hg];exact ao _
 .intro g hg;rw[jY] at hg;rw[aA,aE];rcases aX.mp hg with z|z
  .have:=ih g z;omega
  .obtain⟨g0,h0,rfl⟩:=br.mp z;have:=ih g0 h0;rw[aA,aE];omega
def acL (ts:List Td) (wh:Int) (a b:Str):Int:=(ts.map λt=>if t.2.1=a/\t.1=b then t.2.2.1*(wh/t.2.2.2) else 0).sum
def Jq (a b:Str):List Key:=[.inr a,.inr b]
def Jr (h:Jq a b=Jq c d):c=a/\d=b:=by unfold Jq at h;injection h with h1 h2;injection h2 with h2 _;injection h1 with h1;injection h2 with h2;exact⟨h1.symm,h2.symm⟩
def Ny (ts:List Td) (t:Td) (wh:Int) (a b:Str):acL (ts++ [t]) wh a b=acL ts wh a b+if t.2.1=a/\t.1=b then t.2.2.1*(wh/t.2.2.2) else 0:=by unfold acL;rw[bC,List.sum_append];simp
def S2 (kvs:List (List Key×V)) (g:Str->Str->Int):Prop:=∀a b,∃z:Int,(gP kvs (Jq a b)).getD (.int 0)=.int z/\z=g a b
def tK (g:Aab):List Key:=g.map Sum.inr
def yL (g:Aab):(tK g).map kV=g.map V.str:=by unfold tK;rw[jh];rfl
def Js (h:tK a=tK b):a=b:=by
 unfold tK at h;induction a generalizing b with
 |nil=>cases b with
  |nil=>rfl
  |cons y b=>cases h
 |cons x a ih=>cases b with
  |nil=>cases h
  |cons y b=>injection h with h1 h2;injection h1 with h1;rw[h1,ih h2]
def gz:List Td->Int
 | []=>1
 |t::ts=>t.2.2.2*gz ts
def xn:∀a b:List Td,gz (a++b)=gz a*gz b
 | [],b=>(Int.one_mul _).symm
 |t::a,b=>by show t.2.2.2*gz (a++b)=t.2.2.2*gz a*gz b;rw[xn a b,Int.mul_assoc]
def FV (t:Td):gz [t]=t.2.2.2:=Int.mul_one _
def lQ:∀{ts:List Td},(∀t∈ts,A2 t.2.2)->0<gz ts
 | [],_=>by decide
 |t::ts,h=>lW (h t bT).2.2.1 (lQ λx hx=>h x (bJ _ hx))
def AN:∀{ts:List Td},(∀t∈ts,A2 t.2.2)->gz ts<=1000000000000000000^ts.length
 | [],_=>by decide
 |t::ts,h=>by have h1:=AN (ts:=ts) λx hx=>h x (bJ _ hx);have h0:=lQ (ts:=ts) λx hx=>h x (bJ _ hx);have ht:=(h t bT).2.2;show t.2.2.2*gz ts<=1000000000000000000^(ts.length+1);rw[Int.pow_succ,Be (1000000000000000000^ts.length) 1000000000000000000];exact KJ ht.2 h1 (ky h0) δ
def abV {b m n:Nat}(hb:0<b) (h:m<=n):(b:Int)^m<=(b:Int)^n:=by rw[<-Int.natCast_pow,<-Int.natCast_pow];exact A7.mpr (cH hb h)
def AO (h:∀t∈ts,A2 t.2.2) (hl:ts.length<=15):gz ts<=1000000000000000000^15:=by exact ji (AN h) (abV (b:=1000000000000000000) δ hl)
def AQ (h:∀t∈ts,A2 t.2.2) (hl:ts.length<=15):(gz ts).natAbs<BB:=by
 have h0:=lQ h;have h1:=AO h hl;have h2:((1000000000000000000^15:Int))<(BB:Int):=by unfold BB;decide+kernel
 omega
def Nz (h:n<BB):n<2^2000:=aT h (cH δ δ)
def CA:∀{l:List Int},(∀x∈l,0<=x/\x<=M)->0<=l.sum/\l.sum<=(l.length:Int)*M
 | [],_=>by simp
 |x::l,h=>by obtain⟨h1,h2⟩:=CA (l:=l) λy hy=>h y (bJ _ hy);obtain⟨a,b⟩:=h x bT;rw[jJ,bE,Int.natCast_add,Int.add_mul];omega
def YA (h:∀t∈ts,A2 t.2.2) (w0:0<=wh) (a b:Str):0<=acL ts wh a b/\acL ts wh a b<=(ts.length:Int)*(2000000000000000000*wh):=by
 unfold acL;have:=CA (M:=2000000000000000000*wh) (l:=ts.map λt=>if t.2.1=a/\t.1=b then t.2.2.1*(wh/t.2.2.2) else 0) λx hx=>by
  obtain⟨t,ht,rfl⟩:=br.mp hx;obtain⟨o1,o2,o3,o4⟩:=h t ht;have d0:0<=wh/t.2.2.2:=Int.ediv_nonneg w0 (ky o3);have d1:wh/t.2.2.2<=wh:=Int.ediv_le_self _ w0;have m0:0<=2000000000000000000*wh:=vN δ w0;by_cases c:t.2.1=a/\t.1=b
  .rw[aJ c];exact⟨vN o1 d0,KJ o2 d1 d0 δ⟩
  .rw[aI c];exact⟨F_ _,m0⟩
 rw[ah] at this;exact this
def S3 (h:∀a b,0<=g a b/\g a b<=M) (f:Str) (o:Aab):0<=A3 g f o/\A3 g f o<=(o.length:Int)*M:=by
 have:=CA (M:=M) (l:=o.map (g f)) λx hx=>by obtain⟨b,_,rfl⟩:=br.mp hx;exact h f b
 rw[ah] at this;exact this
def Eb (m0:0<=M) (h:∀a b,0<=g a b/\g a b<=M):∀o:Aab,0<=cost g o/\cost g o<=((o.length*o.length:Nat):Int)*M
 | []=>⟨F_ _,by show(0:Int)<=_;simp⟩
 |f::o=>by
  obtain⟨h1,h2⟩:=Eb m0 h o;obtain⟨a,b⟩:=S3 h f o;refine⟨by show 0<=cost g o+A3 g f o;omega,?_⟩;show cost g o+A3 g f o<=_;have e:(((f::o).length*(f::o).length:Nat):Int)*M=((o.length*o.length:Nat):Int)*M+(o.length:Int)*M+((o.length:Int)+1)*M:=by
   rw[bE,<-Int.add_mul,<-Int.add_mul];congr 1;have:(o.length+1)*(o.length+1)=o.length*o.length+o.length+(o.length+1):=by rw[Nat.add_mul,Nat.mul_add];omega
   omega
  have z:0<=((o.length:Int)+1)*M:=vN ω m0;omega
def CB (h:∀t∈ts,A2 t.2.2) (hl:ts.length<=15) (ho:o.length<=8):0<=cost (acL ts (gz ts)) o/\(cost (acL ts (gz ts)) o).natAbs<BB:=by
 have w0:=ky (lQ h);have w1:=AO h hl;have M0:(0:Int)<=15*(2000000000000000000*1000000000000000000^15):=δ;have step:∀a b,0<=acL ts (gz ts) a b/\acL ts (gz ts) a b<=15*(2000000000000000000*1000000000000000000^15):=λa b=>by obtain⟨h1,h2⟩:=YA h w0 a b;refine⟨h1,ji h2 (KJ ω (Int.mul_le_mul_of_nonneg_left w1 δ) (vN δ w0) δ)⟩
 obtain⟨c0,c1⟩:=Eb M0 step o;refine⟨c0,?_⟩;have l64:((o.length*o.length:Nat):Int)<=64:=by have:o.length*o.length<=8*8:=vM ho ho;omega
 have c2:cost (acL ts (gz ts)) o<=64*(15*(2000000000000000000*1000000000000000000^15)):=ji c1 (Int.mul_le_mul_of_nonneg_right l64 M0);have c3:(64*(15*(2000000000000000000*1000000000000000000^15)):Int)<(BB:Int):=by unfold BB;decide+kernel
 omega
def oZ.Ph (h:oZ g a n o) (p:a.Perm b):oZ g b n o:=⟨h.perm.trans p,h.val,λq hq=>h.min q (hq.trans p.symm)⟩
def oZ.uniq (A:oZ g ns n o) (B:oZ g ns m p):n=m/\o=p:=by have h1:=A.min p B.perm;have h2:=B.min o A.perm;rw[<-B.val] at h1;rw[<-A.val] at h2;have e:=vp h1 h2;exact⟨(dA Prod.fst e).symm,(dA Prod.snd e).symm⟩
def mR.mono {H}(h:mR H x) (s:bc H H'):mR H' x:=⟨s _ _ h.1,s _ _ h.2.1,h.2.2⟩
def vq {α β:Type}{F:α->β->Prop}:∀{a:List α}{b:List β}{c:List α}{d:List β},Paired F a b->Paired F c d->Paired F (a++c) (b++d)
 |_,_,_,_,.nil,h=>h
 |_,_,_,_,.cons h t,h2=>.cons h (vq t h2)
inductive S4 (H:Hp) (Q:VK):Aac->Prop
 |mk {b:aq} {ns:Aab} (h:H b=some (.lst (ns.map V.str))) (l:ns.length<=8) (q:∀p us M,bc H M->M p=some (.lst us)->acI M us (fA ns)->Q (.ref p) M):S4 H Q [.ref b]
def YB:Sp:=λvs H Q _=>S4 H Q vs
inductive S5 (H:Hp) (Q:VK):Aac->Prop
 |mk {a:aq} {us:Aac} {ts:List Td} {wh:Int} (h:H a=some (.lst us)) (t:r_ H us ts) (l:ts.length<=15) (ok:∀t∈ts,A2 t.2.2) (w0:0<=wh) (w1:wh.natAbs<BB) (q:∀p kvs M,bc H M->M p=some (.dT kvs)->S2 kvs (acL ts wh)->Q (.ref p) M):S5 H Q [.ref a,.int wh]
def YC:Sp:=λvs H Q _=>S5 H Q vs
def S6 (g:Str->Str->Int) (cs:Str->A1) (f:Str):Int×Aab:=((cs f).n+A3 g f (cs f).o,f::(cs f).o)
inductive S7 (H:Hp) (Q:VK):Aac->Prop
 |mk {bd gd gp:aq} {kvs NA:List (List Key×V)} {g:Str->Str->Int} {jf:Aab} {cs:Str->A1} (h1:H bd=some (.dT kvs)) (h2:H gd=some (.dT NA)) (gva:S2 NA g) (h3:H gp=some (.tup (jf.map V.str))) (ne:jf≠[]) (l:jf.length<=8) (so:∀x∈jf,PyData.strOk x=true) (hc:∀f∈jf,gP kvs (tK (si f jf))=some (.ref (cs f).t)/\mR H (cs f)/\(cs f).o.length<=8) (q:∀(r:A1) M (e:Str),bc H M->e∈jf->mR M r->H r.l=none->r.key=S6 g cs e->(∀f∈jf,cT (S6 g cs f) r.key=false)->Q (.ref r.t) M):S7 H Q [.ref bd,.ref gd,.ref gp]
def YD:Sp:=λvs H Q _=>S7 H Q vs
def NB (F:gX K "groups_of" "groups_of" SY f fd):cG P w K mg base fK 1 f fd ["names"] YB:=by
 have sc:bx ["names","groups","name"] ["names"] (aP SY):={};exists sc;refine⟨_,az (iQ (i:=1) sc.nd (oU (ae (jx aj) aj))) (az (gy bz rfl (om K (pC 0)) (aM (i:=2) sc.nd rfl (Or.inr rfl)) (aO (iQ (i:=1) sc.nd (bQ (RN K) (pC 1) (gm (N:=["group","name"]) (g:=d_ 0) rfl (om K (pC 1)) (cY.one (v:="group") (fr:="name") (j:=2) (nm:=abR) rfl rfl rfl rfl) (λ_ _ _=>aM (i:=0) abS) (λ_ _ _=>eD) (λ_ _ _=>bQ Dx (pC 0) (jx (ae (pC 1) aj)))))))) (aO (bK (pC 1)))),?_⟩;obtain @⟨b,ns,hB,nl,q⟩:=h;refine cU.mk rfl λe M1 s1 w1 n1=>cU.mk rfl λp0 M2 s2 w2 n2=>mZ.mk ((s1.trans s2) _ _ hB) (lN (λi U M=>∃v p us,U=[some (.ref b),some (.ref p),v]/\bc H M/\M p=some (.lst us)/\acI M us (fA (ns.take i))) ⟨_,p0,[.ref e],rfl,s1.trans s2,w2,.cons ⟨e,rfl,s2 _ _ w1⟩ .nil⟩ (λi U M ⟨_,_,_,_,s,_⟩=>s _ _ hB) ?_ ?_)
 .rintro i x U M D' hx ⟨v,p,us,rfl,sm,hP,hG⟩ ⟨nx,_⟩;rw[aR] at hx;obtain⟨nm,hn,rfl⟩:=cw.mp hx;have hi:=(aF.mp hn).1;have tk:fA (ns.take (i+1))=fA (ns.take i)++(fA (ns.take i)).map (· ++ [nm]):=by rw[<-jY,bM,hn];rfl
  have abW:us.length<=256:=by have h1:us.length=_:=ee hG;rw[h1,sV];exact cH (n:=2) δ (by rw[b_];omega:(ns.take i).length<=8)
  refine mZ.mk hP λD hD=>Gi (xs:=us) TupAt (λt=>t++ [nm]) (λU=>∃v,U=[v,some (.str nm)]) hD (wa hP) hG ω ⟨_,rfl⟩ (λ_ _ _ _ t h=>h.up t) ?_ λys M3 s3 w3 pr=>?_
  .rintro U M3 v t Y ⟨_,rfl⟩ s ⟨a,rfl,ha⟩ ht hY;refine cU.mk rfl λd M5 s5 w5 n5=>mS.any (s5 _ _ (s _ _ ha)) w5 ς (by have:=Ea _ t ht;rw[b_] at this;simp only[ah,aE];omega) λr M6 s6 w6=>hY _ _ _ ⟨_,rfl⟩ (s5.trans s6) ⟨r,rfl,by rw[w6,bC];rfl⟩
  .have ly:ys.length=us.length:=by rw[ee pr,ah];exact(ee hG).symm
   refine yo.mk (gj.of (s3 _ _ hP)) w3 ω λr M4 s4 w4 n4=>nx _ _ ⟨_,r,us++ys,rfl,(sm.trans s3).trans s4,w4,?_⟩;rw[tk];exact vq (acM hG λ_ _ z=>z.up λ_ _ e=>s4 _ _ (s3 _ _ e)) (acM pr λ_ _ z=>z.up λ_ _ e=>s4 _ _ e)
 .rintro U M ⟨v,p,us,rfl,sm,hP,hG⟩;rw[ah,bX] at hG;exact q p us M sm hP hG
def NC (F:gX K "gainsaid_by" "gainsaid_by" S0 f fd):cG P w K mg base fK 1 f fd ["trials","whole"] YC:=by
 have sc:bx ["trials","whole","gainsaid","more","less","by"] ["trials","whole"] (aP S0):={};exists sc;have hu:=nr hr;refine⟨_,az (iQ (i:=2) sc.nd Hv) (az (gy bz rfl (om K (pC 0)) (rY 3 (gY (aM (i:=3) sc.nd) (gY (aM (i:=4) sc.nd) (gY (aM (i:=5) sc.nd) rX)))) (aO (D5 hu (pC 2) (jx (ae (pC 4) (ae (pC 3) aj))) (bQ (oK fF) (Yw hu (pC 2) (jx (ae (pC 4) (ae (pC 3) aj))) aH ⟨rfl,rfl,rfl,rfl⟩) (bQ (yX Dl) (bW eV (pC 5) aH) (bQ (yX uW) (pC 1) (bW eV (pC 5) aH)))) rfl))) (aO (bK (pC 2)))),?_⟩;obtain @⟨a,us,ts,wh,hS,hT,tl,Pj,w0,w1,q⟩:=h;intro p hp;have h0:upd H p (.dT []) p=some (.dT []):=ba;have sm0:bc H (upd H p (.dT [])):=bZ hp _;refine mZ.mk (sm0 _ _ hS) (lN (λi U M=>∃v3 v4 v5 kvs,U=[some (.ref a),some (.int wh),some (.ref p),v3,v4,v5]/\bc H M/\M p=some (.dT kvs)/\kvs.length<=i/\S2 kvs (acL (ts.take i) wh)) ⟨_,_,_,[],rfl,sm0,h0,ao _,λx y=>⟨0,rfl,rfl⟩⟩ (λi U M ⟨_,_,_,_,_,s,_⟩=>s _ _ hS) ?_ ?_)
 .rintro i x U M D' hx ⟨v3,v4,v5,kvs,rfl,sm,hP,lk,hG⟩ ⟨nx,_⟩;obtain⟨td,Gn,tr⟩:=Paired.get' hT hx;obtain⟨r,b,rfl,t1,t2⟩:=tr.mono (bc.tk sm);have hi:=(aF.mp Gn).1;obtain⟨o1,o2,o3,o4⟩:=Pj td (aY Gn);have tk:ts.take (i+1)=ts.take i++ [td]:=by rw[bM,Gn];rfl
  obtain⟨z,hz,ez⟩:=hG td.2.1 td.1;have b2:td.2.2.2.natAbs<BB:=Ag (bU (show td.2.2.2.natAbs<=1000000000000000000 by omega) δ);refine pT.mk t1 rfl (G2I.mk rfl rfl rfl hP λM1 s1=>hE.mk (s1 _ _ t2) (a_ (j:=0) rfl) (hE.mk (s1 _ _ t2) (a_ (j:=1) rfl) ⟨⟨o3,b2⟩,⟨?_,?_⟩,?_⟩))
  .exact bU (show td.2.2.1.natAbs<=2000000000000000000 by omega) (aT (show 2000000000000000000<2^61 by decide) (cH δ δ))
  .have:(wh/td.2.2.2).natAbs<=wh.natAbs:=pG _ _;exact bU this (aT w1 (cH δ δ))
  rw[show(gP kvs [.inr td.2.1,.inr td.1]).getD (.int 0)=.int z from hz];refine cU.mk rfl λk2 M2 s2 w2 n2=>yG.t (k:=Jq td.2.1 td.1) (s2 _ _ (s1 _ _ hP)) w2 ω λM3 k3 w3=>nx _ _ ⟨_,_,_,_,rfl,λy o e=>k3 _ _ (λz=>by rw[z,hp] at e;cases e) (s2 _ _ (s1 _ _ (sm _ _ e))),w3,aB (gQ _ _ _) ω,λx y=>?_⟩;rw[uI,tk,Ny];by_cases e:td.2.1=x/\td.1=y
  .obtain⟨e1,e2⟩:=e;subst e1 e2;rw[aJ rfl,aJ ⟨rfl,rfl⟩];exact⟨_,rfl,by rw[ez]⟩
  .rw[aI (λw=>e (Jr w)),aI e,Int.add_zero];exact hG x y
 .rintro U M ⟨v3,v4,v5,kvs,rfl,sm,hP,lk,hG⟩;rw[show us.length=ts.length from d9 hT,bX] at hG;exact q p kvs M sm hP hG
def ND (F:gX K "best_of_group" "best_of_group" S1 f fd) (T:Txt mg):cG P w K mg base fK 1 f fd ["best","gainsaid","group"] YD:=by
 have sc:bx ["best","gainsaid","group","orders","first","least","order","ahead"] ["best","gainsaid","group"] (aP S1):={};exists sc;have hu:=nr hr;refine⟨_,az (iQ (i:=3) sc.nd (oU aj)) (az (gy bz rfl (Cj K (pC 2)) (aM (i:=4) sc.nd rfl (Or.inr rfl)) (az (iP (xk hu (pC 0) (dO tH rfl T.tuple bO (ae (gm (N:=["name","first"]) (g:=d_ 0) rfl (Cj K (pC 2)) (cY.one (v:="name") (fr:="first") (j:=4) (nm:=abT) rfl rfl rfl rfl) (λ_ _ _=>aM (i:=0) abU) (λ_ _ _=>gK (fG oN (pC 0) (pC 1) (cO _))) (λ_ _ _=>pC 0)) aj)) (λ_ _=>rfl)) (rY 2 (gY (aM (i:=5) sc.nd) (gY (aM (i:=6) sc.nd) rX)))) (az (iQ (i:=7) sc.nd (bj Pc rfl T.sum kZ (ae (gm (N:=["name","first","gainsaid"]) (g:=d_ 0) rfl (om K (pC 6)) (cY.two (v:="name") (fr:="first") (fs:="gainsaid") (j:=4) (k:=1) (nm:=Yy) rfl rfl rfl rfl rfl rfl) (λ_ _ _=>aM (i:=0) Yz) (λ_ _ _=>eD) (λ_ _ _=>Yw hu (pC 2) (jx (ae (pC 1) (ae (pC 0) aj))) aH ⟨rfl,rfl,rfl,rfl⟩)) aj))) (aO (eR (pV cI cJ pf (pC 3) (ae (jx (ae (bQ (oK fF) (pC 5) (pC 7)) (ae (bQ (RN K) (oU (ae (pC 4) aj)) (pC 6)) aj))) aj))))))) (aO (bK (bj (Yx hr.units) rfl T.min ur (ae (pC 3) aj))))),?_⟩;obtain @⟨bd,gd,gp,kvs,NA,g,jf,cs,hB,hG,gva,hR,ne,gl,so,hc,q⟩:=h;refine cU.mk rfl λl M0 s0 w0 n0=>An.mk (s0 _ _ hR) (Ap (λi U M=>∃v4 v5 v6 v7,∃os:List A1,U=[some (.ref bd),some (.ref gd),some (.ref gp),some (.ref l),v4,v5,v6,v7]/\bc H M/\M l=some (.lst (os.map λt=>V.ref t.t))/\ Paired (λ(r:A1) f=>mR M r/\r.l≠l/\H r.l=none/\r.key=S6 g cs f) os (jf.take i)) ⟨_,_,_,_,[],rfl,s0,w0,.nil⟩ (λi U M ⟨_,_,_,_,_,_,s,_⟩=>s _ _ hR) ?_ ?_)
 .rintro i x U M D' hx ⟨v4,v5,v6,v7,os,rfl,sm,hL,hO⟩ ⟨nx,_⟩;rw[aR] at hx;obtain⟨f,hf,rfl⟩:=cw.mp hx;have mf:=aY hf;have tkg:jf.take (i+1)=jf.take i++ [f]:=by rw[bM,hf];rfl
  obtain⟨hv,pr,ol⟩:=hc f mf;have lo:os.length<=8:=by rw[d9 hO,b_];omega
  refine An.mk (sm _ _ hR) λD hD=>Kn (λ_ v b=>v=.str b) (λn:Str=>if(λn=>!decide (n=f)) n=true then some n else none) (λU=>∃v,U=[v,some (.str f)]) hD (OY (sm _ _ hR)) kI (by rw[ah];omega) ⟨_,rfl⟩ (λ_ _ _ _ _ e=>e) ?_ λys M1 s1 w1 p1=>?_
  .rintro U M1 x n N Y ⟨_,rfl⟩ s rfl hm hN hY;show if(!decide (n=f))=true then _ else _;by_cases c:n=f
   .rw[aZ c];exact hN (aI (by simp[c])) _ _ ⟨_,rfl⟩ (bc.refl _)
   .rw[bw c];exact hY _ _ _ _ (aJ (by simp[c])) ⟨_,rfl⟩ (bc.refl _) rfl
  rw[pairE p1,fmF] at w1;refine oV.l w1 λt M2 s2 w2 n2=>AH.mk (v:=.ref (cs f).t) (hv▸jc.t (k:=tK (si f jf)) ((s1.trans s2) _ _ (sm _ _ hB)) (by rw[yL];exact w2)) ?_;have oX:=sm.trans (s1.trans s2);have pr2:=mR.mono pr oX;refine pT.mk pr2.1 rfl (mZ.mk pr2.2.1 λD2 MW=>Gi (λ_ v (b:Int)=>v=.int b) (λn:Str=>g f n) (λU=>∃v,U=[v,some (.str f),some (.ref gd)]) MW (wa pr2.2.1) kI (by rw[ah];omega) ⟨_,rfl⟩ (λ_ _ _ _ _ e=>e) ?_ λzs M3 s3 w3 p3=>?_)
  .rintro U M3 x n Y ⟨_,rfl⟩ s rfl hm hY;refine G2I.mk rfl rfl rfl ((oX.trans s) _ _ hG) λM4 s4=>hY _ _ _ ⟨_,rfl⟩ s4 ?_;obtain⟨z,h1,h2⟩:=gva f n;rw[<-h2];exact h1
  rw[pairE p3] at w3;have UU:=oX.trans s3;have NF:=((s1.trans s2).trans s3) _ _ hL;refine Ni.mk w3 ⟨IsL.mk NF,cU.mk rfl λl1 M4 s4 w4 n4=>yo.mk (gj.of w4) ((s3.trans s4) _ _ pr2.2.1) (by simp only[aE,ah];omega) λl2 M5 s5 w5 n5=>cU.mk rfl λt2 M6 s6 w6 n6=>?_⟩;have s46:=(s4.trans s5).trans s6;have hL6:=s46 _ _ NF;refine tF.mk hL6 (by rw[ah];omega) λM7 k7 w7=>?_;have n2':l2≠l:=λz=>by rw[z,s4 _ _ NF] at n5;cases n5
  have t2':t2≠l:=λz=>by rw[z,s5 _ _ (s4 _ _ NF)] at n6;cases n6
  have nlH:H l=none:=n0;have st:∀{r:A1},mR M6 r->r.l≠l->mR M7 r:=λ{r} h n=>⟨yF hL6 k7 _ _ h.1,k7 _ _ n h.2.1,h.2.2⟩;refine nx _ _ ⟨_,_,_,_,os++ [⟨t2,l2,(cs f).n+A3 g f (cs f).o,f::(cs f).o⟩],rfl,λy o e=>k7 _ _ (λz=>by rw[z,nlH] at e;cases e) (s46 _ _ (UU _ _ e)),by rw[w7,bC];rfl,?_⟩;rw[tkg];refine iI (Paired.y9 hO λr f' ⟨h1,h2,h3,h4⟩=>⟨st (mR.mono h1 (((s1.trans s2).trans s3).trans s46)) h2,h2,h3,h4⟩) ⟨st ⟨w6,s6 _ _ w5,λz hz=>?_⟩ n2',n2',(UU.trans s4).pj n5,rfl⟩;rcases aU.mp hz with rfl|hz
  .exact so _ mf
  .exact pr.2.2 z hz
 .rintro U M ⟨v4,v5,v6,v7,os,rfl,sm,hL,hO⟩;rw[ah,bX] at hO;have lo:os.length=jf.length:=d9 hO;refine SX.mk hL (λe=>ne (fH.mp (by rw[<-lo,e];rfl))) (λt ht=>?_) λr vY mn=>?_
  .obtain⟨j,hj⟩:=i9 ht;obtain⟨f,_,h,_⟩:=Paired.get' hO hj;exact h
  .obtain⟨j,hj⟩:=i9 vY;obtain⟨e,he,h1,_,h3,h4⟩:=Paired.get' hO hj;refine q r M e sm (aY he) h1 h3 h4 λf hf=>?_;obtain⟨k,hk⟩:=i9 hf;have LV:k<os.length:=by rw[lo];exact(aF.mp hk).1
   obtain⟨f',hf',q1,_,q3,q4⟩:=Paired.get' hO (ag LV);rw[hk] at hf';cases hf';rw[<-q4];exact mn _ (dD LV)
abbrev Ks:Stmt:=top 51
abbrev YE:Aab:=["trials","names","whole","more","less","by","gainsaid","rising","best","group","least","order"]
def pE (i:Nat):Stmt:=(eC Ks).getD i (.Pass ⟨0,0,0,0⟩)
def YF:eC Ks=[pE 0,pE 1,pE 2,pE 3,pE 4,pE 5,pE 6,pE 7]:=rfl
def NG:swapsWith (.Dict ks vs p) t l env=pure false:=rfl
def AR (ts:List Td) (ns:Aab) (x y:Int) (o:Aab):Prop:=∃n,x=eZ n (gz ts)/\y=eN n (gz ts)/\oZ (acL ts (gz ts)) ns n o
inductive BoI (H:Hp) (Q:VK):Aac->Prop
 |mk {a b:aq} {us:Aac} {ts:List Td} {ns:Aab} (h:H a=some (.lst us)) (t:r_ H us ts) (l:ts.length<=15) (ok:∀t∈ts,A2 t.2.2) (hb:H b=some (.lst (ns.map V.str))) (ne:ns≠[]) (l8:ns.length<=8) (nd:ns.Nodup) (so:∀x∈ns,PyData.strOk x=true) (q:∀p q l x y o H',bc H H'->H p=none->H l=none->H' p=some (.tup [.ref q,.ref l])->H' q=some (.tup [.int x,.int y])->H' l=some (.lst (o.map V.str))->AR ts ns x y o->Q (.ref p) H'):BoI H Q [.ref a,.ref b]
def BoC:Sp:=λvs H Q _=>BoI H Q vs
def Known (H0:Hp) (g:Str->Str->Int) (kvs:List (List Key×V)) (M:Hp) (jf:Aab):Prop:=∃r:A1,gP kvs (tK jf)=some (.ref r.t)/\mR M r/\oZ g jf r.n r.o/\(jf≠[]->H0 r.l=none)
def bo4 {H}{A}{E}{s}(sc:bx YE ["trials","names"] (aP Ks)) (hu:(A.deeper (Ψ "best_order" (aP Ks) s.heap.objs.size f eU)).units+1<cLine):∃r,pE 4=r/\PS ((jC fK P w K mg base YE "best_order" (aP Ks) f eU A outer s H E).Bk) r (Bl kD0 (d_ 8)):=by obtain⟨p0,k,v,p6,p7,e,hk,hv⟩:∃p0 k v p6 p7,pE 4=.Assign [.Name "best" p0] (.Dict [some k] [v] p6) p7/\PE ((jC fK P w K mg base YE "best_order" (aP Ks) f eU A outer s H E).Bk) k (u_ gk)/\PE ((jC fK P w K mg base YE "best_order" (aP Ks) f eU A outer s H E).Bk) v (u_ (dF (tC (.int 0)) (dF (Fw gk) gk))):=⟨_,_,_,_,_,rfl,jx aj,jx (ae aH (ae (oU aj) aj))⟩;exact⟨_,e,iQ (i:=8) sc.nd (abQ hu hk hv) (hs:=NG)⟩
def S8 (F:gX K "best_order" "best_order" Ks f fd) (T:Txt mg) (DG:Df P w K mg base 1 "gainsaid_by" ["trials","whole"] YC) (DR:Df P w K mg base 1 "groups_of" ["names"] YB) (DB:Df P w K mg base 1 "best_of_group" ["best","gainsaid","group"] YD) (DF:Df P w K mg base 1 "fraction" ["top","bottom"] UT):cG P w K mg base fK 2 f fd ["trials","names"] BoC:=by
 have sc:bx YE ["trials","names"] (aP Ks):={};exists sc;have hu:=nr hr;obtain⟨r4,e4,q4⟩:=bo4 (P:=P) (w:=w) (K:=K) (mg:=mg) (base:=base) (outer:=outer) (H:=H) (E:=E) sc hu;rw[YF,e4];refine⟨_,az (iQ (i:=2) sc.nd aH) (az (gy bz rfl (om K (pC 0)) (rY 3 (gY (aM (i:=3) sc.nd) (gY (aM (i:=4) sc.nd) (gY (aM (i:=5) sc.nd) rX)))) (aO (iQ (i:=2) sc.nd (bQ (yX Dl) (pC 2) (bW eV (pC 5) aH))))) (az (iQ (i:=6) sc.nd (pD DG hr (ae (pC 0) (ae (pC 2) aj)))) (az (iQ (i:=7) sc.nd (bj O0 rfl T.sorted P_ (ae (pC 1) aj))) (az q4 (az (gy bz rfl (om K (gx qz (pD DR hr (ae (pC 7) aj)) (tI aH) jv)) (aM (i:=9) sc.nd) (aO (D5 hu (pC 8) (pC 9) (pD DB hr (ae (pC 8) (ae (pC 6) (ae (pC 9) aj)))) rfl))) (az (iP (xk hu (pC 8) (dO tH rfl T.tuple bO (ae (pC 7) aj)) (λ_ _=>rfl)) (rY 2 (gY (aM (i:=10) sc.nd) (gY (aM (i:=11) sc.nd) rX)))) (aO (bK (jx (ae (pD DF hr (ae (pC 10) (ae (pC 2) aj))) (ae (pC 11) aj))))))))))),?_⟩;obtain @⟨a,b,us,ts,ns,hS,hT,tl,Pj,hB,ne,nl,nd,okn,q⟩:=h;have lu:us.length=ts.length:=d9 hT;have W0:=lQ Pj;have W1:=AQ Pj tl;refine mZ.mk hS (lN (λi U M=>(∃v3 v4 v5,U=[some (.ref a),some (.ref b),some (.int (gz (ts.take i))),v3,v4,v5,none,none,none,none,none,none])/\M=H) ⟨⟨_,_,_,rfl⟩,rfl⟩ (λi U M ⟨_,e⟩=>e▸hS) ?_ ?_)
 .rintro i x U M D' hx ⟨⟨v3,v4,v5,rfl⟩,rfl⟩ ⟨nx,_⟩;obtain⟨td,Gn,r,z,rfl,t1,t2⟩:=Paired.get' hT hx;have tk:ts.take (i+1)=ts.take i++ [td]:=by rw[bM,Gn];rfl
  obtain⟨o1,o2,o3,o4⟩:=Pj td (aY Gn);have hx1:=Nz (AQ (ts:=ts.take i) (λt ht=>Pj t (gH ht)) (by rw[b_];omega));have hx2:(td.2.2.2).natAbs<2^2000:=bU (show td.2.2.2.natAbs<=1000000000000000000 by omega) (aT (show 1000000000000000000<2^61 by decide) (cH δ δ));refine pT.mk t1 rfl (hE.mk t2 (a_ (j:=1) rfl) ⟨⟨hx1,hx2⟩,nx _ _ ⟨?_,rfl⟩⟩);rw[tk,xn,FV];exact⟨_,_,_,rfl⟩
 rintro U M ⟨⟨v3,v4,v5,rfl⟩,rfl⟩;rw[lu,bX];refine S5.mk hS hT tl Pj (ky W0) W1 λgd NA M1 s1 hG gva=>we.mk (s1 _ _ hB) ω λrs ss M2 s2 hR n2 pm so=>D0I.mk λbd t0 l0 M3 s3 n3 hD h0 hl0=>?_;have oW:=s1.trans s2;have hb0:=oW.pj n3;have Kl:∀x∈ss,PyData.strOk x=true:=λx hx=>okn x (pm.mem_iff.mp hx);have ls:ss.length<=8:=by rw[pm.length_eq];exact nl
 have ngb:gd≠bd:=λz=>by rw[<-z,s2 _ _ hG] at n3;cases n3
 have nrb:rs≠bd:=λz=>by rw[<-z,hR] at n3;cases n3
 refine S4.mk (s3 _ _ hR) ls λp gs M4 s4 hP hGr=>Fy.l hP λp2 M5 s5 xo n5=>?_;have CD:=s4.trans s5;have LL:=(oW.trans s3).trans CD;have hD5:=CD _ _ hD;have abX:acI M5 gs (fA ss):=acM hGr λ_ _ z=>z.up λ_ _ e=>s5 _ _ e;have gr:=FU ss (pm.nodup_iff.mpr nd);have gl:=Ea ss;have gll:=sV ss;have np2:p2≠bd:=λz=>by rw[z,s4 _ _ hD] at n5;cases n5
 rw[show gO gs (some 1) none=gs.drop 1 by
  unfold gO;rw[show gF gs.length 0 (some 1)=min 1 gs.length from ju gs.length 0 1,jD];cases gs with
  |nil=>rfl
  |cons x xs=>simp] at xo;generalize fA ss=L at*;have lL:gs.length=L.length:=ee hGr;have abW:L.length<=256:=by rw[gll];exact cH δ ls
 refine mZ.mk xo (lN (λi U N=>∃v9 kvs,U=[some (.ref a),some (.ref b),some (.int (gz ts)),v3,v4,v5,some (.ref gd),some (.ref rs),some (.ref bd),v9,none,none]/\cX bd M5 N/\N bd=some (.dT kvs)/\kvs.length<=i+1/\∀jf∈L.take (i+1),Known M (acL ts (gz ts)) kvs N jf) ⟨_,_,rfl,cX.refl _ _,hD5,ao _,λjf hg=>?_⟩ (λi U N ⟨_,_,_,k,_⟩=>k _ _ np2 xo) ?_ ?_)
 .have:L.take 1=[[]]:=by
   cases L with
   |nil=>exact absurd gr.z ς
   |cons a l=>have:=gr.z;simp at this;rw[this];rfl
  rw[this,aK] at hg;rw[hg];exact⟨⟨t0,l0,0,[]⟩,by simp[gP,tK],⟨CD _ _ h0,CD _ _ hl0,λ_ h=>nomatch h⟩,oZ.empty _,λz=>absurd rfl z⟩
 .rintro i x U N D' hx ⟨v9,kvs,rfl,kp,hB2,lk,hK⟩ ⟨nx,_⟩;rw[y4,Nat.add_comm] at hx;obtain⟨jf,NH,gp,rfl,hgp⟩:=je abX _ _ hx;obtain⟨q1,q2,q3,q4⟩:=gr.sub (i+1) jf NH;have UK:jf≠[]:=λz=>by have:=q3 z;omega
  have YG:=kp _ _ (λz=>by rw[z,hD5] at hgp;cases hgp) hgp;have sH2:bc M N:=λc o e=>kp _ _ (λz=>by rw[z,hb0] at e;cases e) (LL _ _ e);have ch:∀f,∃c:A1,f∈jf->gP kvs (tK (si f jf))=some (.ref c.t)/\mR N c/\oZ (acL ts (gz ts)) (si f jf) c.n c.o:=λf=>by
   by_cases hf:f∈jf
   .obtain⟨r,h1,h2,h3,_⟩:=hK _ (q4 f hf);exact⟨r,λ_=>⟨h1,h2,h3⟩⟩
   .exact⟨⟨0,0,0,[]⟩,λz=>absurd z hf⟩
  obtain⟨cs,K8⟩:=Classical.axiomOfChoice ch;have lg:jf.length<=8:=aB (gl jf (aY NH)) ls;have tkL:L.take (i+1+1)=L.take (i+1)++ [jf]:=by rw[bM (i:=i+1),NH];rfl
  have ZM:i+1<L.length:=(aF.mp NH).1;refine S7.mk hB2 (kp _ _ ngb (CD _ _ (s3 _ _ (s2 _ _ hG)))) gva YG UK lg (λx hx=>Kl x (q2 x hx)) (λf hf=>⟨(K8 f hf).1,(K8 f hf).2.1,?_⟩) λr N3 e Jt he pr hl ek mn=>?_
  .rw[(K8 f hf).2.2.perm.length_eq];exact aB (iD _ _) lg
  have hB3:=Jt _ _ hB2;refine yG.t (k:=tK jf) hB3 (by rw[yL];exact Jt _ _ YG) ω λN4 k4 w4=>nx _ _ ⟨_,_,rfl,λc o n e=>k4 _ _ n (Jt _ _ (kp _ _ n e)),w4,aB (gQ _ _ _) ω,λabY ZL=>?_⟩;have st:∀{r:A1},mR N3 r->mR N4 r:=λ{r} h=>⟨k4 _ _ (λz=>by have:=h.1;rw[z,hB3] at this;cases this) h.1,k4 _ _ (λz=>by have:=h.2.1;rw[z,hB3] at this;cases this) h.2.1,h.2.2⟩;rw[tkL] at ZL;have B:=oZ.step (cs:=λf=>((cs f).n,(cs f).o)) q1 UK (λf hf=>(K8 f hf).2.2) he (λf hf=>by have:=mn f hf;rw[ek] at this;exact this);have e1:r.n=(cs e).n+A3 _ e (cs e).o:=dA Prod.fst ek;have e2:r.o=e::(cs e).o:=dA Prod.snd ek;by_cases eg:abY=jf
  .subst eg;exact⟨r,by rw[uI,aJ rfl],st pr,by rw[e1,e2];exact B,λ_=>sH2.pj hl⟩
  .rcases aX.mp ZL with z|z
   .obtain⟨r',h1,h2,h3,h4⟩:=hK _ z;exact⟨r',by rw[uI,aI (λw=>eg (Js w))];exact h1,st (mR.mono h2 Jt),h3,h4⟩
   .exact absurd (aK.mp z) eg
 rintro U N ⟨v9,kvs,rfl,kp,hB2,lk,hK⟩;obtain⟨r,h1,pr,B,fr⟩:=hK ss (by rw[fQ (by rw[cK];omega)];exact gr.top);have hR2:=kp _ _ nrb (CD _ _ (s3 _ _ hR));have sN:bc M N:=λc o e=>kp _ _ (λz=>by rw[z,hb0] at e;cases e) (LL _ _ e);refine oV.l hR2 λt N1 t1 w1 m1=>AH.mk (v:=.ref r.t) (h1▸jc.t (k:=tK ss) (t1 _ _ hB2) (by rw[yL];exact w1)) ?_;have Yt:=mR.mono pr t1;have ne':ss≠[]:=λz=>ne (Ew (by rw[<-z];exact pm.symm));have lo:r.o.length<=8:=by rw[B.perm.length_eq];exact ls
 have cs2:r.n.natAbs<BB:=by rw[B.val];exact(CB Pj tl lo).2
 refine pT.mk Yt.1 rfl (Xt.mk W0 W1 cs2 λp3 N2 t2 w2 m2=>cU.mk rfl λp4 N3 t3 w3 m3=>q p4 p3 r.l _ _ r.o N3 ((sN.trans t1).trans (t2.trans t3)) ((sN.trans (t1.trans t2)).pj m3) (fr ne') w3 (t3 _ _ w2) ((t2.trans t3) _ _ Yt.2.1) ⟨r.n,rfl,rfl,B.Ph pm⟩)
section
variable {A B S:Type}
def turn (g:A->List B->B->A×List B) (s:A×List B):A×List B:=match s.2.getLast? with
 |none=>s
 |some b=>g s.1 s.2.dropLast b
def run (g:A->List B->B->A×List B) (s:A×List B):Nat->A×List B
 |0=>s
 |n+1=>turn g (run g s n)
def vt {s:A×List B}(h:(run g s n).2=[]):∀k,run g s (n+k)=run g s n
 |0=>rfl
 |k+1=>by show turn g (run g s (n+k))=_;rw[vt h k];unfold turn;rw[h];rfl
def Ju {s:A×List B} (h:run g s n=(a,[])) (k:run g s m=(b,[])):a=b:=by
 rcases Nat.le_total n m with l|l
 .obtain⟨j,rfl⟩:=Nat.le.dest l;rw[vt (by rw[h]) j,h] at k;exact dA Prod.fst k
 .obtain⟨j,rfl⟩:=Nat.le.dest l;rw[vt (by rw[k]) j,k] at h;exact(dA Prod.fst h).symm
def AS {s:A×List B} (h:run g s n=(a,L++ [b])):run g s (n+1)=g a L b:=by show turn g (run g s n)=_;rw[h];unfold turn;rw[lX,vK]
def up (f:S->Nat->S) (s:S):Nat->S
 |0=>s
 |i+1=>f (up f s i) i
noncomputable def S9 [Nonempty A] (g:A->List B->B->A×List B) (s:A×List B):A:=Classical.epsilon λa=>∃n,run g s n=(a,[])
def Ec [Nonempty A] {g:A->List B->B->A×List B}{s:A×List B}{n:Nat}{a:A}(h:run g s n=(a,[])):a=S9 g s:=by obtain⟨m,k⟩:=Vi (p:=λa=>∃n,run g s n=(a,[])) ⟨a,n,h⟩;exact Ju h k
end
abbrev CF:Stmt:=top 42
abbrev S_:Stmt:=top 43
abbrev Jv:Stmt:=top 44
abbrev Ta:Stmt:=top 45
abbrev Tr:=Str×Str×Bool
def du (t:Td):Tr:=(t.1,t.2.1,decide (0<t.2.2.1))
def nO (t:Tr) (n:Str):Option Str:=if n=t.1 then some t.2.1 else if n=t.2.1/\t.2.2=false then some t.1 else none
def abZ:Option Str->V
 |some m=>.str m
 |none=>.e_
def Jw (T:List Tr):Aab:=T.flatMap λt=>[t.1,t.2.1]
def uj:∀T:List Tr,(Jw T).length=2*T.length
 | []=>rfl
 |t::T=>by show([t.1,t.2.1]++Jw T).length=_;rw[aA,uj T,bE,bE,bE,Gu];omega
def Jx {i:Nat}(h:T[i]?=some t) (e:nO t n=some m):m∈Jw T:=by
 refine jj.mpr ⟨t,aY h,?_⟩;unfold nO at e;split at e
 .cases e;simp
 .split at e
  .cases e;simp
  .cases e
inductive Jy (H:Hp) (Q:VK):Aac->Prop
 |mk {u:V} {t:Td} (h:Pg H u t) (q:Q (.bl (du t).2.2) H):Jy H Q [u]
def NI:Sp:=λvs H Q _=>Jy H Q vs
inductive NJ (H:Hp) (Q:VK):Aac->Prop
 |mk {u:V} {t:Td} {n:Str} (h:Pg H u t) (q:Q (abZ (nO (du t) n)) H):NJ H Q [u,.str n]
def Tb:Sp:=λvs H Q _=>NJ H Q vs
abbrev Pl:=Str×Bool
def keyOf (k:Pl):List Key:=[.inr k.1,.inl k.2]
def FW (h:keyOf a=keyOf b):a=b:=by obtain⟨a1,a2⟩:=a;obtain⟨b1,b2⟩:=b;unfold keyOf at h;injection h with h1 h2;injection h2 with h2 _;injection h1 with h1;injection h2 with h2;subst h1 h2;rfl
section
variable {κ:Type}[DecidableEq κ]{key:κ->List Key}
def wj (key:κ->List Key) (ks:List κ):List (List Key×V):=ks.map λk=>(key k,.bl true)
def yM (inj:∀a b,key a=key b->a=b) (k:κ):∀ks:List κ,((wj key ks).any λkv=>decide (kv.1=key k))=decide (k∈ks)
 | []=>rfl
 |x::ks=>by
  show(decide (key x=key k)||(wj key ks).any λkv=>decide (kv.1=key k))=_;rw[yM inj k ks];by_cases e:x=k
  .subst e;simp
  .rw[bw (λz=>e (inj _ _ z)),Bool.false_or];have e':¬k=x:=λz=>e z.symm;simp[e']
def NK (inj:∀a b,key a=key b->a=b) (ks:List κ) (k:κ):(gP (wj key ks) (key k)).isSome=decide (k∈ks):=by rw[<-kg,yM inj]
def NL (inj:∀a b,key a=key b->a=b) {ks:List κ}{k:κ}(h:¬k∈ks):putK (wj key ks) (key k) (.bl true)=wj key (ks++ [k]):=by unfold putK;rw[aI (by rw[yM inj];simpa using h)];simp[wj]
def tL (k:κ) (ks:List κ):Bool:=decide (k∈ks)
def ab0 {k:κ}{ks:List κ}(h:k∈ks):tL k ks=true:=aZ h
def ab1 {k:κ}{ks:List κ}(h:¬k∈ks):tL k ks=false:=bw h
def qY (inj:∀a b,key a=key b->a=b) (ks:List κ) (k:κ):(gP (wj key ks) (key k)).isSome=tL k ks:=NK inj ks k
def len_tab (ks:List κ):(wj key ks).length=ks.length:=by simp[wj]
end
def FX:∀a b:Pl,keyOf a=keyOf b->a=b:=λ_ _ h=>FW h
abbrev tab (ks:List Pl):List (List Key×V):=wj keyOf ks
abbrev PS2:=List Pl×List Pl
def FY (T:List Tr) (k:Pl) (s:PS2) (i:Nat):PS2:=match (T[i]?).bind λt=>(nO t k.1).map λm=>(m,k.2||t.2.2) with
 |none=>s
 |some m=>if m∈s.1 then s else(s.1++ [m],s.2++ [m])
def Jz (T:List Tr) (ks qs:List Pl) (k:Pl):PS2:=up (FY T k) (ks,qs) T.length
noncomputable def Pk (T:List Tr) (st:Str):List Pl:=S9 (Jz T) ([(st,false)],[(st,false)])
structure Pv (T:List Tr) (st:Str) (ks:List Pl):Prop where
 nd:ks.Nodup
 sub:∀k∈ks,k.1∈st::Jw T
def Pv.len {st}(h:Pv T st ks):ks.length<=2*(1+2*T.length):=by
 have:=nM (us:=(st::Jw T).map (λn=>(n,false))++(st::Jw T).map λn=>(n,true)) h.nd λk hk=>by
  have m:=dr (f:=λn:Str=>(n,k.2)) (h.sub k hk);rw[show(k.1,k.2)=k from rfl] at m;rw[aX];cases e:k.2 with
  |false=>rw[e] at m;exact .inl m
  |true=>rw[e] at m;exact .inr m
 rw[aA,ah,ah,bE,uj] at this;omega
def Pv.snoc {st}(h:Pv T st ks) (hm:m.1∈Jw T) (n:m∉ks):Pv T st (ks++ [m]):=⟨mz h.nd n,λk hk=>by
 rcases aX.mp hk with z|z
 .exact h.sub k z
 .rw[aK.mp z];exact .tail _ hm⟩
def UZ (H:Hp):Aac->List Pl->Prop:=Paired λu k=>∃b,u=.ref b/\H b=some (.tup [.str k.1,.bl k.2])
def UZ.mono {H}(h:UZ H us qs) (k:TK H H'):UZ H' us qs:=Paired.y9 h λ_ _ z=>let⟨b,e,z⟩:=z;⟨b,e,k _ _ z⟩
def vw {α β:Type}{R:α->β->Prop}:∀{as:List α}{bs:List β}{a:α},Paired R (as++ [a]) bs->∃bs' b,bs=bs'++ [b]/\Paired R as bs'/\R a b
 | [],_,a,.cons h .nil=>⟨[],_,rfl,.nil,h⟩
 |_::as,_,a,.cons h t=>by obtain⟨bs',b,e,h1,h2⟩:=vw (as:=as) t;exact⟨_::bs',b,by rw[e];rfl,.cons h h1,h2⟩
def xq {U}{H}(hg:gv U i=some v) (q:Q v H):vC i U H Q:=by unfold vC;rw[hg];exact q
inductive NM (H:Hp) (Q:VK):Aac->Prop
 |mk {a:aq} {us:Aac} {ts:List Td} {st:Str} (h:H a=some (.lst us)) (t:r_ H us ts) (l:ts.length<=100) (q:∀p M,bc H M->M p=some (.dT (tab (Pk (ts.map du) st)))->Q (.ref p) M):NM H Q [.ref a,.str st]
def YH:Sp:=λvs H Q _=>NM H Q vs
def vOf (ab be al:Bool):Str:=if ab&&be then"ring" else if ab then"more" else if be then"less" else if al then"alike" else"open"
noncomputable def NN (T:List Tr) (x y:Str):Str:=vOf (tL (y,true) (Pk T x)) (tL (x,true) (Pk T y)) (tL (y,false) (Pk T x))
inductive Tc (H:Hp) (Q:VK):Aac->Prop
 |mk {a:aq} {us:Aac} {ts:List Td} {x y:Str} (h:H a=some (.lst us)) (t:r_ H us ts) (l:ts.length<=100) (q:∀M,bc H M->Q (.str (NN (ts.map du) x y)) M):Tc H Q [.ref a,.str x,.str y]
def YI:Sp:=λvs H Q _=>Tc H Q vs
def FZ (F:gX K "is_clear" "is_clear" CF f fd):cG P w K mg base fK 1 f fd ["trial"] NI:=by have sc:bx ["trial"] ["trial"] (aP CF):={};exists sc;refine⟨_,aO (bK (jt (oK zi) (bW eV (bW eV (pC 0) aH) aH) aH (cO _))),?_⟩;obtain⟨⟨p,q,rfl,h1,h2⟩,hq⟩:=h;exact hE.mk h1 (a_ (j:=2) rfl) (hE.mk h2 (a_ (j:=0) rfl) hq)
def NO (F:gX K "led_to" "led_to" S_ f fd) (DC:Df P w K mg base 1 "is_clear" ["trial"] NI):cG P w K mg base fK 2 f fd ["trial","name"] Tb:=by
 have sc:bx ["trial","name"] ["trial","name"] (aP S_):={};exists sc;refine⟨_,az (gI (fG oQ (pC 1) (bW eV (pC 0) aH) (cO _)) (aO (bK (bW eV (pC 0) aH))) cj) (az (gI (PW.pt (Aq (fG oQ (pC 1) (bW eV (pC 0) aH) (cO _)) (qt (ib (pU (pD DC hr (ae (pC 0) aj))))))) (aO (bK (bW eV (pC 0) aH))) cj) (aO (bK jK))),?_⟩;obtain @⟨u,t,n,⟨p,z,rfl,h1,h2⟩,q⟩:=h;unfold nO at q;refine hE.mk h1 (a_ (j:=0) rfl) (Mv (λe=>hE.mk h1 (a_ (j:=1) rfl) ?_) λe=>hE.mk h1 (a_ (j:=1) rfl) (Mv (λe2=>Jy.mk ⟨p,z,rfl,h1,h2⟩ ?_) λe2=>?_))
 .rw[aJ (show n=(du t).1 from e)] at q;exact q
 .rw[aI (show ¬n=(du t).1 from e)] at q;show Ci _ _ (!(du t).2.2);cases hc:(du t).2.2 with
  |true=>rw[aI (λz=>by rw[hc] at z;cases z.2)] at q;exact q
  |false=>rw[aJ ⟨(show n=(du t).2.1 from e2),hc⟩] at q;exact hE.mk h1 (a_ (j:=0) rfl) q
 .rw[aI (show ¬n=(du t).1 from e),aI (λz=>e2 z.1)] at q;exact q
def JA (F:gX K "places_from" "places_from" Jv f fd) (DC:Df P w K mg base 1 "is_clear" ["trial"] NI) (DL:Df P w K mg base 2 "led_to" ["trial","name"] Tb):cG P w K mg base fK 3 f fd ["trials","start"] YH:=by
 have sc:bx ["trials","start","places","waiting","name","clear","trial","place"] ["trials","start"] (aP Jv):={};exists sc;have hu:=nr hr;refine⟨_,az (iQ (i:=2) sc.nd (abE hu (jx (ae (pC 1) (ae o6 aj))) o6)) (az (iQ (i:=3) sc.nd (oU (ae (jx (ae (pC 1) (ae o6 aj))) aj))) (az (ym bz (D6 3 (pC 3)) (az (iP (OW kX kY OX (pC 3)) (rY 2 (gY (aM (i:=4) sc.nd) (gY (aM (i:=5) sc.nd) rX)))) (aO (gy bz rfl (om K (pC 0)) (aM (i:=6) sc.nd) (az (iQ (i:=7) sc.nd (jx (ae (pD DL hr (ae (pC 6) (ae (pC 4) aj))) (ae (XW (pC 5) (ma (pD DC (hr.mono δ) (ae (pC 6) aj)))) aj)))) (aO (gI (PW.pt (Aq (fG Dz (bW eV (pC 7) aH) jK (cO _)) (qt (fG (Sw hu) (pC 7) (pC 2) rfl)))) (az (D5 hu (pC 2) (pC 7) o6 rfl) (aO (eR (pV cI cJ pf (pC 3) (ae (pC 7) aj))))) cj))))))) (aO (bK (pC 2))))),?_⟩;obtain @⟨a,us,ts,st,hS,hT,hl,q⟩:=h;refine D1I.mk λp M1 s1 w1 n1=>cU.mk rfl λk M2 s2 w2 _=>cU.mk rfl λl M3 s3 w3 n3=>?_;have zU:=(s1.trans s2).trans s3;have hlp:l≠p:=λz=>by rw[z,s2 _ _ w1] at n3;cases n3
 have nl:H l=none:=(s1.trans s2).pj n3;have lT:(ts.map du).length=ts.length:=ah _;have lut:us.length=ts.length:=d9 hT;refine Ck (λm U M=>∃n c t pl ks qs ws,U=[some (.ref a),some (.str st),some (.ref p),some (.ref l),n,c,t,pl]/\bc H M/\M p=some (.dT (tab ks))/\M l=some (.lst ws)/\UZ M ws qs/\(∃j,run (Jz (ts.map du)) ([(st,false)],[(st,false)]) j=(ks,qs))/\Pv (ts.map du) st ks/\ws.length<=ks.length/\m=2*(2*(1+2*ts.length)-ks.length)+ws.length) _ ⟨_,_,_,_,[(st,false)],[(st,false)],[.ref k],rfl,zU,(s2.trans s3) _ _ w1,w3,.cons ⟨k,rfl,s3 _ _ w2⟩ .nil,⟨0,rfl⟩,⟨ς,λk hk=>by rw[aK.mp hk];exact .head _⟩,ao _,rfl⟩ ?_;rintro m U M D' ⟨n,c,t,pl,ks,qs,ws,rfl,sm,hP,hL,hW,⟨j,hj⟩,g,lw,rfl⟩ ⟨nx,rt,_⟩;refine FJ.mk hL ?_;rcases iF ws with rfl|⟨L,u,rfl⟩
 .cases hW;have e:=Ec hj;refine q p M sm ?_;rw[show Pk (ts.map du) st=ks from e.symm];exact hP
 rw[iG] at hL hW lw⊢;obtain⟨qs',k0,rfl,hW',b0,rfl,hb0⟩:=vw hW;have WA:=AS hj;rw[show(L++ [V.ref b0]).isEmpty=false by cases L<;>rfl];refine⟨IsL.mk hL,Mu.mk hL λM4 k4 w4=>?_⟩;have XR:=yF hL k4;have YJ:bc H M4:=λy o e=>k4 _ _ (λz=>by rw[z,nl] at e;cases e) (sm _ _ e);rw[aA,aE] at lw;refine pT.mk (XR _ _ hb0) rfl (mZ.mk (YJ _ _ hS) (lN (λi U M=>(∃t pl,U=[some (.ref a),some (.str st),some (.ref p),some (.ref l),some (.str k0.1),some (.bl k0.2),t,pl])/\bc H M/\∃F1 vF qZ,M p=some (.dT (tab F1))/\M l=some (.lst qZ)/\UZ M qZ vF/\up (FY (ts.map du) k0) (ks,qs') i=(F1,vF)/\Pv (ts.map du) st F1/\ks.length<=F1.length/\qZ.length+ks.length=L.length+F1.length) ⟨⟨_,_,rfl⟩,YJ,ks,qs',L,k4 _ _ hlp.symm hP,w4,UZ.mono hW' XR,rfl,g,ao _,rfl⟩ (λi U M h=>h.2.1 _ _ hS) ?_ ?_))
 .rintro i x U M5 D2 hx ⟨⟨t,pl,rfl⟩,s5,F1,vF,qZ,xo,Gp,A4,eu,g2,l1,l2⟩ ⟨Gk,_⟩;obtain⟨td,Gn,tr⟩:=Paired.get' hT hx;have Te:=tr.mono (bc.tk s5);have NP:(ts.map du)[i]?=some (du td):=by rw[aR,Gn];rfl
  have bd:=g2.len;refine NJ.mk Te (Sv.mk (d:=(du td).2.2) (λQ' h=>Jy.mk Te h) (cU.mk rfl λOG M6 s6 w6 _=>hE.mk w6 (a_ (j:=0) rfl) ?_));have CG:=s5.trans s6;have Ku:=A4.mono (bc.tk s6);have e1:∀s:PS2,FY (ts.map du) k0 s i=match (nO (du td) k0.1).map λm=>(m,k0.2||(du td).2.2) with
   |none=>s
   |some m=>if m∈s.1 then s else(s.1++ [m],s.2++ [m]):=λs=>by unfold FY;rw[NP];rfl
  have Ed:up (FY (ts.map du) k0) (ks,qs') (i+1)=FY (ts.map du) k0 (F1,vF) i:=by rw[<-eu];rfl
  rw[e1] at Ed;cases hm:nO (du td) k0.1 with
  |none=>rw[hm] at Ed;exact Gk _ _ ⟨⟨_,_,rfl⟩,CG,F1,vF,qZ,s6 _ _ xo,s6 _ _ Gp,Ku,Ed,g2,l1,l2⟩
  |some m=>
   rw[hm] at w6 Ed;refine wg.mk (jc.t (k:=keyOf (m,k0.2||(du td).2.2)) (s6 _ _ xo) w6) ?_;by_cases vB:(m,k0.2||(du td).2.2)∈F1
   .rw[qY FX,ab0 vB];exact Gk _ _ ⟨⟨_,_,rfl⟩,CG,F1,vF,qZ,s6 _ _ xo,s6 _ _ Gp,Ku,Ed.trans (aJ vB),g2,l1,l2⟩
   rw[qY FX,ab1 vB];refine yG.t (k:=keyOf (m,k0.2||(du td).2.2)) (s6 _ _ xo) w6 (by rw[len_tab];omega) λM7 k7 w7=>?_;rw[NL FX vB] at w7;have hL7:=k7 _ _ hlp (s6 _ _ Gp);refine⟨IsL.mk hL7,tF.mk hL7 ω λM8 k8 w8=>?_⟩;have t7:TK M6 M8:=λb xs e=>k8 _ _ (λz=>by rw[z,s6 _ _ Gp] at e;cases e) (k7 _ _ (λz=>by rw[z,s6 _ _ xo] at e;cases e) e);exact Gk _ _ ⟨⟨_,_,rfl⟩,λy o e=>k8 _ _ (λz=>by rw[z,nl] at e;cases e) (k7 _ _ (λz=>by rw[z,n1] at e;cases e) (CG _ _ e)),F1++ [(m,k0.2||(du td).2.2)],vF++ [(m,k0.2||(du td).2.2)],_,k8 _ _ hlp.symm w7,w8,iI (Ku.mono t7) ⟨OG,rfl,t7 _ _ w6⟩,Ed.trans (aI vB),g2.snoc (Jx NP hm) vB,by rw[aA];omega,by simp only[aA,aE];omega⟩
 .rintro U M5 ⟨⟨t,pl,rfl⟩,s5,F1,vF,qZ,xo,Gp,A4,eu,g2,l1,l2⟩;have bd:=g2.len;refine nx _ _ ⟨_,?_,_,_,_,_,F1,vF,qZ,rfl,s5,xo,Gp,A4,⟨j+1,WA.trans (by unfold Jz;rw[lT,<-lut];exact eu)⟩,g2,ω,rfl⟩;rw[List.length_concat];omega
def NQ (F:gX K "verdict" "verdict" Ta f fd) (DF:Df P w K mg base 3 "places_from" ["trials","start"] YH):cG P w K mg base fK 4 f fd ["trials","one","other"] YI:=by
 have sc:bx ["trials","one","other","from_one","above","below"] ["trials","one","other"] (aP Ta):={};exists sc;have hu:=nr hr;refine⟨_,az (iQ (i:=3) sc.nd (pD DF hr (ae (pC 0) (ae (pC 1) aj)))) (az (iQ (i:=4) sc.nd (jt (FK hu) (jx (ae (pC 2) (ae o6 aj))) (pC 3) rfl)) (az (iQ (i:=5) sc.nd (jt (FK hu) (jx (ae (pC 1) (ae o6 aj))) (pD DF hr (ae (pC 0) (ae (pC 2) aj))) rfl)) (az (gI (PW.pt (Aq (pU (pC 4)) (qt (pU (pC 5))))) (aO (bK f_)) cj) (az (gI (pU (pC 4)) (aO (bK f_)) cj) (az (gI (pU (pC 5)) (aO (bK f_)) cj) (az (gI (fG (FK hu) (jx (ae (pC 2) (ae o6 aj))) (pC 3) rfl) (aO (bK f_)) cj) (aO (bK f_)))))))),?_⟩;obtain @⟨a,us,ts,x,y,hS,hT,hl,q⟩:=h;refine NM.mk hS hT hl λp M1 s1 w1=>cU.mk rfl λk1 M2 s2 w2 _=>wg.mk (jc.t (k:=keyOf (y,true)) (s2 _ _ w1) w2) (cU.mk rfl λk3 M3 s3 w3 _=>?_);have zU:=(s1.trans s2).trans s3;refine NM.mk (zU _ _ hS) (hT.mono (bc.tk zU)) hl λp4 M4 s4 w4=>wg.mk (jc.t (k:=keyOf (x,true)) w4 (s4 _ _ w3)) ?_;have Dm:=zU.trans s4;have w14:=((s2.trans s3).trans s4) _ _ w1;rw[qY FX,qY FX];have q:=λM s=>q M (Dm.trans s);unfold NN at q;generalize tL (y,true) (Pk (ts.map du) x)=ab at*;generalize tL (x,true) (Pk (ts.map du) y)=be at*;cases ab<;>cases be
 .refine cU.mk rfl λk5 M5 s5 w5 _=>wg.mk (jc.t (k:=keyOf (y,false)) (s5 _ _ w14) w5) ?_;rw[qY FX];have q:=q M5 s5;generalize tL (y,false) (Pk (ts.map du) x)=al at*;cases al<;>exact q
 .exact q _ (bc.refl _)
 .exact q _ (bc.refl _)
 .exact q _ (bc.refl _)
abbrev JB:Stmt:=top 46
abbrev JC:Stmt:=top 47
abbrev JD:Stmt:=top 52
abbrev Tf:Stmt:=top 53
abbrev Tg:Stmt:=top 54
abbrev iV (n:Nat):V:=.int n
abbrev WS:=List (Str×List Nat)
abbrev ku (ws:WS):Aab:=ws.map Prod.fst
def pY:WS->Str->List Nat
 | [],_=>[]
 |x::ws,k=>if x.1=k then x.2 else pY ws k
def uk:∀{ws:WS}{k:Str},(∀x∈ws,x.2.length<=n)->(pY ws k).length<=n
 | [],_,_=>bH _
 |x::ws,k,h=>by
  unfold pY;split
  .exact h x (.head _)
  .exact uk λy hy=>h y (.tail _ hy)
abbrev W2:=WS×Aab
def q_ (T:List Tr) (nm:Str) (s:W2) (i:Nat):W2:=match (T[i]?).bind λt=>nO t nm with
 |none=>s
 |some o=>if o∈ku s.1 then s else(s.1++ [(o,pY s.1 nm++ [i])],s.2++ [o])
def Ee (T:List Tr) (ws:WS) (qs:Aab) (nm:Str):W2:=up (q_ T nm) (ws,qs) T.length
def Pm (ss:Aab) (ws:WS) (i:Nat):WS:=match ss[i]? with
 |none=>ws
 |some z=>if z∈ku ws then ws else ws++ [(z,[])]
def w0 (ss:Aab):Nat->WS:=up (Pm ss) []
noncomputable def Ef (T:List Tr) (ss:Aab):WS:=S9 (Ee T) (w0 ss ss.length,ss)
structure Wv (T:List Tr) (ss:Aab) (s:W2):Prop where
 nd:(ku s.1).Nodup
 sub:∀k∈ku s.1,k∈ss++Jw T
 vl:∀x∈s.1,x.2.length<=s.1.length
 st:∀k∈ss,k∈ku s.1
 qk:∀k∈s.2,k∈ku s.1
 ql:s.2.length<=ss.length+s.1.length
def JE (ss:Aab):∀i,(ku (w0 ss i)).Nodup/\(∀k∈ku (w0 ss i),k∈ss)/\(∀x∈w0 ss i,x.2=[])/\∀(j:Nat) z,j<i->ss[j]?=some z->z∈ku (w0 ss i)
 |0=>⟨List.nodup_nil,λ_ h=>(nomatch h),λ_ h=>(nomatch h),λ_ _ h=>absurd h (tX _)⟩
 |i+1=>by
  obtain⟨h1,h2,h3,h4⟩:=JE ss i;have e:w0 ss (i+1)=Pm ss (w0 ss i) i:=rfl;rw[e];generalize w0 ss i=ws at*;have lt:∀{j:Nat},j<i+1->j<i\/j=i:=λh=>y6 (cN h);cases hz:ss[i]? with
  |none=>rw[show Pm ss ws i=ws by unfold Pm;rw[hz]];exact⟨h1,h2,h3,λj z hj hz'=>(lt hj).elim (λl=>h4 j z l hz') λe=>by rw[e,hz] at hz';cases hz'⟩
  |some z=>
   rw[show Pm ss ws i=if z∈ku ws then ws else ws++ [(z,[])] by unfold Pm;rw[hz]];by_cases vB:z∈ku ws
   .rw[aJ vB];exact⟨h1,h2,h3,λj y hj hy=>(lt hj).elim (λl=>h4 j y l hy) λe=>by rw[e,hz] at hy;cases hy;exact vB⟩
   .rw[aI vB];have en:ku (ws++ [(z,[])])=ku ws++ [z]:=bC;rw[en];refine⟨mz h1 vB,λk hk=>?_,λx hx=>?_,λj y hj hy=>?_⟩
    .rcases aX.mp hk with h|h
     .exact h2 k h
     .rw[aK.mp h];exact aY hz
    .rcases aX.mp hx with h|h
     .exact h3 x h
     .rw[aK.mp h]
    .rcases lt hj with l|e
     .exact bh _ (h4 j y l hy)
     .rw[e,hz] at hy;cases hy;simp
def Stp (s s':W2):Prop:=(∀k∈ku s.1,k∈ku s'.1)/\s'.2.length+s.1.length=s.2.length+s'.1.length/\s.1.length<=s'.1.length
def NR {s}(h:Wv T ss s) (i:Nat):Wv T ss (q_ T nm s i)/\Stp s (q_ T nm s i):=by
 unfold q_;cases e:(T[i]?).bind λt=>nO t nm with
 |none=>exact⟨h,λ_ z=>z,rfl,ao _⟩
 |some o=>
  dsimp only;by_cases vB:o∈ku s.1
  .rw[aJ vB];exact⟨h,λ_ z=>z,rfl,ao _⟩
  rw[aI vB];obtain⟨t,ht,hl⟩:=Option.bind_eq_some_iff.mp e;have en:ku (s.1++ [(o,pY s.1 nm++ [i])])=ku s.1++ [o]:=bC;have ho:o∈ku s.1++ [o]:=ς;have ql:=h.ql;refine⟨⟨?_,λk hk=>?_,λx hx=>?_,λk hk=>?_,λk hk=>?_,?_⟩,λk hk=>?_,?_,?_⟩
  .rw[en];exact mz h.nd vB
  .rw[en] at hk;rcases aX.mp hk with h1|h1
   .exact h.sub k h1
   .rw[aK.mp h1];exact aD _ (Jx ht hl)
  .rw[aA,aE];rcases aX.mp hx with h1|h1
   .exact Nat.le_succ_of_le (h.vl x h1)
   .rw[aK.mp h1,aA,aE];exact rp (uk h.vl)
  .rw[en];exact bh _ (h.st k hk)
  .rw[en];rcases aX.mp hk with h1|h1
   .exact bh _ (h.qk k h1)
   .rw[aK.mp h1];exact ho
  .simp only[aA,aE];omega
  .rw[en];exact bh _ hk
  .simp only[aA,aE];omega
  .rw[aA];exact fZ _ _
def xr {s}(h:Wv T ss s):∀i,Wv T ss (up (q_ T nm) s i)/\Stp s (up (q_ T nm) s i)
 |0=>⟨h,λ_ z=>z,rfl,ao _⟩
 |i+1=>by obtain⟨h1,a,b,c⟩:=xr h i;obtain⟨h2,a',b',c'⟩:=NR (nm:=nm) h1 i;exact⟨h2,λk hk=>a' k (a k hk),by show(q_ T nm (up (q_ T nm) s i) i).2.length+_=_+(q_ T nm (up (q_ T nm) s i) i).1.length;omega,aB c c'⟩
def Wv.cut (h:Wv T ss (ws,L++ [k])):Wv T ss (ws,L):=⟨h.nd,h.sub,h.vl,h.st,λk hk=>h.qk k (bh _ hk),aB ς h.ql⟩
def JF (T:List Tr) (ss:Aab):∀n,Wv T ss (run (Ee T) (w0 ss ss.length,ss) n)
 |0=>by
  obtain⟨h1,h2,h3,h4⟩:=JE ss ss.length;have st:∀k∈ss,k∈ku (w0 ss ss.length):=λk hk=>by obtain⟨j,hj⟩:=i9 hk;exact h4 j k (aF.mp hj).1 hj
  exact⟨h1,λk hk=>bh _ (h2 k hk),λx hx=>by rw[h3 x hx];exact bH _,st,st,fZ _ _⟩
 |n+1=>by
  have h:=JF T ss n;show Wv T ss (turn _ _);generalize run (Ee T) (w0 ss ss.length,ss) n=s at*;obtain⟨ws,qs⟩:=s;unfold turn;rcases iF qs with rfl|⟨L,k,rfl⟩
  .exact h
  .rw[iG] at h⊢;rw[lX,vK];exact(xr h.cut _).1
def Wv.len {s}(h:Wv T ss s):s.1.length<=ss.length+2*T.length:=by have:=nM h.nd h.sub;rw[aA,uj,ah] at this;exact this
def WyR (H:Hp) (l:aq) (kv:Key×V) (x:Str×List Nat):Prop:=∃a,kv=(.inr x.1,.ref a)/\a≠l/\H a=some (.lst (x.2.map iV))
abbrev pZ (H:Hp) (l:aq):List (Key×V)->WS->Prop:=Paired (WyR H l)
def pZ.up {H}(h:pZ H l kvs ws) (f:∀a xs,a≠l->H a=some (.lst xs)->a≠l'/\H' a=some (.lst xs)):pZ H' l' kvs ws:=Paired.y9 h λ_ _ ⟨a,e,n,z⟩=>⟨a,e,f a _ n z⟩
def nQ {H}(k:Str):∀{kvs:List (Key×V)}{ws:WS},pZ H l kvs ws->(gP kvs (.inr k)=none/\¬k∈ku ws)\/∃a,gP kvs (.inr k)=some (.ref a)/\k∈ku ws/\a≠l/\H a=some (.lst ((pY ws k).map iV))
 |_,_,.nil=>.inl ⟨rfl,λh=>nomatch h⟩
 |kv::_,x::_,.cons ⟨a,e,n,z⟩ t=>by
  subst e;by_cases c:x.1=k
  .exact .inr ⟨a,gg (dA Sum.inr c),by rw[<-c];exact .head _,n,by rw[pY,aJ c];exact z⟩
  .rw[gh (λz=>c (vG z)),pY,aI c];rcases nQ k t with⟨h1,h2⟩|⟨a,h1,h2,h3⟩
   .exact .inl ⟨h1,λh=>(aU.mp h).elim (λz=>c z.symm) h2⟩
   .exact .inr ⟨a,h1,.tail _ h2,h3⟩
def Eg {k:Key}(h:gP kvs k=none):putK kvs k v=kvs++ [(k,v)]:=by unfold putK;rw[aI (by rw[kg,h];exact λz=>nomatch z)]
def NS {H}(h:pZ H l kvs ws) (e:∀x∈ws,x.2=[]) (hk:k∈ku ws) (n:a≠l) (ha:H a=some (.lst [])):pZ H l (putK kvs (.inr k) (.ref a)) ws:=by
 unfold putK;rw[kg];rcases nQ k h with⟨_,z⟩|⟨b,hb,hz⟩
 .exact absurd hk z
 rw[hb,aJ (show(some (V.ref b)).isSome=true from rfl)];clear hb hk hz;induction h with
 |nil=>exact .nil
 | @cons kv x kvs ws hx t ih=>
  refine .cons ?_ (ih λy hy=>e y (.tail _ hy));obtain⟨b,rfl,z⟩:=hx;show WyR H l (if Sum.inr x.1=Sum.inr k then _ else _) x;by_cases c:x.1=k
  .rw[aJ (dA Sum.inr c)];exact⟨a,by rw[c],n,by rw[e x (.head _)];exact ha⟩
  .rw[aI (λz=>c (vG z))];exact⟨b,rfl,z⟩
inductive JG (H:Hp) (Q:VK):Aac->Prop
 |mk {a b:aq} {us:Aac} {ts:List Td} {ss:Aab} (h:H a=some (.lst us)) (t:r_ H us ts) (l:ts.length<=100) (hb:H b=some (.lst (ss.map V.str))) (ls:ss.length<=500) (q:∀p l kvs M,bc H M->M p=some (.dK kvs)->pZ M l kvs (Ef (ts.map du) ss)->Wv (ts.map du) ss (Ef (ts.map du) ss,[])->Q (.ref p) M):JG H Q [.ref a,.ref b]
def Th:Sp:=λvs H Q _=>JG H Q vs
def JH (F:gX K "ways_from" "ways_from" JB f fd) (T:Txt mg) (DL:Df P w K mg base 2 "led_to" ["trial","name"] Tb):cG P w K mg base fK 3 f fd ["trials","starts"] Th:=by
 have sc:bx ["trials","starts","ways","waiting","name","number","trial","onward"] ["trials","starts"] (aP JB):={};exists sc;have hu:=nr hr;refine⟨_,az (Hy (i0:=2) (N:=["start"]) (g:=d_ 0) sc.nd rfl (Or.inl rfl) rfl (om K (pC 1)) (cY.closed rfl) (λ_ _ _=>aM (i:=0) (Z0 _)) (λ_ _ _=>eD) (λ_ _ _=>pC 0) (λ_ _ _=>oU aj)) (az (iQ (i:=3) sc.nd (dO Fx rfl T.list eA (ae (pC 1) aj))) (az (ym bz (D6 3 (pC 3)) (az (iQ (i:=4) sc.nd (OW kX kY OX (pC 3))) (aO (gy bz rfl (piE K rfl T.enum (ae (pC 0) aj)) (rY 2 (gY (aM (i:=5) sc.nd) (gY (aM (i:=6) sc.nd) rX))) (az (iQ (i:=7) sc.nd (pD DL hr (ae (pC 6) (ae (pC 4) aj)))) (aO (gI (PW.pt (Aq (fG Dz (pC 7) jK (cO _)) (qt (fG (Sw hu) (pC 7) (pC 2) rfl)))) (az (D5 hu (pC 2) (pC 7) (bQ (RN K) (xk hu (pC 2) (pC 4) (λ_ _=>rfl)) (oU (ae (pC 5) aj))) rfl) (aO (eR (pV cI cJ pf (pC 3) (ae (pC 7) aj))))) cj))))))) (aO (bK (pC 2))))),?_⟩;obtain @⟨a,b,us,ts,ss,hS,hT,hl,hB,hs,q⟩:=h;refine mZ.mk hB λp hp=>dcW (λi kvs U M=>(∃v,U=[v])/\bc H M/\pZ M p kvs (w0 ss i)) hp (by rw[ah];omega) (wa hB) ⟨⟨_,rfl⟩,bZ hp _,.nil⟩ (λ_ _ _ _ h=>h.2.1) ?_ ?_
 .rintro i x kvs U M hx hy ⟨⟨v,rfl⟩,sm,hW⟩;rw[aR] at hx;obtain⟨z,hz,rfl⟩:=cw.mp hx;refine cU.mk rfl λk M2 s2 w2 n2=>⟨.inr z,rfl,s2 _ _ hy,⟨_,rfl⟩,?_,?_⟩
  .intro y o e;rw[bN (λz=>by rw[z,hp] at e;cases e)];exact s2 _ _ (sm _ _ e)
  have nk:k≠p:=λz=>by rw[z,hy] at n2;cases n2
  have A4:pZ (upd M2 p (.dK (putK kvs (.inr z) (.ref k)))) p kvs (w0 ss i):=hW.up λa xs n e=>⟨n,by rw[bN n];exact s2 _ _ e⟩;have w2':upd M2 p (.dK (putK kvs (.inr z) (.ref k))) k=some (.lst []):=by rw[bN nk];exact w2
  have e:w0 ss (i+1)=if z∈ku (w0 ss i) then w0 ss i else w0 ss i++ [(z,[])]:=by show Pm ss (w0 ss i) i=_;unfold Pm;rw[hz]
  rw[e];by_cases vB:z∈ku (w0 ss i)
  .rw[aJ vB];exact NS A4 (JE ss i).2.2.1 vB nk w2'
  .rw[aI vB];rcases nQ z hW with⟨h1,_⟩|⟨_,_,h,_⟩
   .rw[Eg h1] at A4 w2'⊢;exact A4.snoc ⟨k,rfl,nk,w2'⟩
   .exact absurd h vB
 rintro ab2 U M1 hP1 ⟨_,s1,hW1⟩;rw[ah] at hW1;refine yk.l (s1 _ _ hB) λl M2 s2 Gp nl=>?_;have oW:=s1.trans s2;have nl1:=nl;have nlH:H l=none:=s1.pj nl;have Pn:p≠l:=λz=>by rw[z,nl] at hP1;cases hP1
 refine Ck (λm U M=>∃n i c o ws qs kvs,U=[some (.ref a),some (.ref b),some (.ref p),some (.ref l),n,i,c,o]/\bc H M/\M p=some (.dK kvs)/\M l=some (.lst (qs.map V.str))/\pZ M l kvs ws/\(∃j,run (Ee (ts.map du)) (w0 ss ss.length,ss) j=(ws,qs))/\m=2*(ss.length+2*ts.length-ws.length)+qs.length) _ ⟨_,_,_,_,_,_,ab2,rfl,oW,s2 _ _ hP1,Gp,hW1.up λa xs n e=>⟨λz=>(by rw[z,nl] at e;cases e),s2 _ _ e⟩,⟨0,rfl⟩,rfl⟩ ?_;rintro m U M D' ⟨n,i,c,o,ws,qs,kvs,rfl,sm,hP,hL,hW,⟨j,hj⟩,rfl⟩ ⟨nx,rt,_⟩;have wv:=JF (ts.map du) ss j;rw[hj] at wv;refine FJ.mk hL ?_;have lT:(ts.map du).length=ts.length:=ah _;have lut:us.length=ts.length:=d9 hT;rcases iF qs with rfl|⟨L,k0,rfl⟩
 .have e:ws=Ef (ts.map du) ss:=Ec hj;exact q p l kvs M sm hP (e▸hW) (e▸wv)
 rw[iG] at hL hj wv⊢;have hL':M l=some (.lst (L.map V.str++ [V.str k0])):=by rw[hL,bC];rfl
 have WA:=AS hj;rw[show((L++ [k0]).map V.str).isEmpty=false by cases L<;>rfl];refine⟨IsL.mk hL',Mu.mk hL' λM4 k4 w4=>?_⟩;have XR:=yF hL' k4;have YJ:bc H M4:=λy o e=>k4 _ _ (λz=>by rw[z,nlH] at e;cases e) (sm _ _ e);refine Xa.mk (YJ _ _ hS) (Im (λi U M=>(∃x t o,U=[some (.ref a),some (.ref b),some (.ref p),some (.ref l),some (.str k0),x,t,o])/\bc H M/\∃qZ vF tO,M p=some (.dK tO)/\M l=some (.lst (vF.map V.str))/\pZ M l tO qZ/\up (q_ (ts.map du) k0) (ws,L) i=(qZ,vF)) ⟨⟨_,_,_,rfl⟩,YJ,ws,L,kvs,k4 _ _ Pn hP,w4,hW.up λa xs n e=>⟨n,k4 _ _ n e⟩,rfl⟩ (λi U M h=>h.2.1 _ _ hS) ?_ ?_)
 .rintro i x U M5 D2 T M6 hx ⟨⟨_,_,_,rfl⟩,s5,qZ,vF,tO,xo,Gp,A4,eu⟩ ⟨Gk,_⟩ s6 hT6 nT;obtain⟨td,Gn,tr⟩:=Paired.get' hT hx;have CG:=s5.trans s6;have Te:=tr.mono (bc.tk CG);have NP:(ts.map du)[i]?=some (du td):=by rw[aR,Gn];rfl
  have Ti:=s6 _ _ xo;have NF:=s6 _ _ Gp;have Ku:pZ M6 l tO qZ:=A4.up λa xs n e=>⟨n,s6 _ _ e⟩;have JI:=(xr (nm:=k0) wv.cut i).1;have kk:=(xr (nm:=k0) wv.cut i).2.1 _ (wv.qk k0 ς);rw[eu] at JI kk;have Ed:up (q_ (ts.map du) k0) (ws,L) (i+1)=match nO (du td) k0 with
   |none=>(qZ,vF)
   |some o=>if o∈ku qZ then(qZ,vF) else(qZ++ [(o,pY qZ k0++ [i])],vF++ [o]):=by
   show q_ _ _ (up _ _ i) i=_;rw[eu];unfold q_;rw[NP];rfl
  refine pT.mk hT6 rfl (NJ.mk Te ?_);cases hm:nO (du td) k0 with
  |none=>rw[hm] at Ed;exact Gk _ _ ⟨⟨_,_,_,rfl⟩,CG,qZ,vF,tO,Ti,NF,Ku,Ed⟩
  |some m=>
   rw[hm] at Ed;have Ed:=Ed;refine wg.mk (jc.k (k:=.inr m) Ti) ?_;rcases nQ m Ku with⟨h1,h2⟩|⟨_,h1,h2,_⟩
   .rw[h1];rcases nQ k0 Ku with⟨_,h3⟩|⟨ak,h3,_,n3,h4⟩
    .exact absurd kk h3
    have bd:qZ.length<=_:=JI.len;have bl:(pY qZ k0).length<=qZ.length:=uk (k:=k0) JI.vl;have ql:vF.length<=ss.length+qZ.length:=JI.ql;rw[lT] at bd;have lk:tO.length=qZ.length:=d9 Ku;refine AH.mk (h3▸jc.k (k:=.inr k0) Ti) (cU.mk rfl λl7 M7 s7 w7 n7=>yo.mk (gj.of (s7 _ _ h4)) w7 (by simp only[ah,aE];omega) λl8 M8 s8 w8 n8=>yG.k (k:=.inr m) (s8 _ _ (s7 _ _ Ti)) ω λM9 k9 w9=>?_);have U0:=s7.trans s8;have hL9:=k9 _ _ Pn.symm (U0 _ _ NF);have np8:l8≠p:=λz=>by rw[z,s7 _ _ Ti] at n8;cases n8
    have nl8:l8≠l:=λz=>by rw[z,s7 _ _ NF] at n8;cases n8
    refine⟨IsL.mk hL9,tF.mk hL9 (by rw[ah];omega) λMA kA wA=>?_⟩;rw[Eg h1] at w9;have e9:∀y o,y≠p->y≠l->M6 y=some o->MA y=some o:=λy o n1 n2 e=>kA _ _ n2 (k9 _ _ n1 (U0 _ _ e));refine Gk _ _ ⟨⟨_,_,_,rfl⟩,λy o e=>e9 y o (λz=>by rw[z,hp] at e;cases e) (λz=>by rw[z,nlH] at e;cases e) (CG _ _ e),qZ++ [(m,pY qZ k0++ [i])],vF++ [m],_,kA _ _ Pn w9,by rw[wA,bC];rfl,?_,Ed.trans (aI h2)⟩;refine iI (Ku.up λa xs n e=>⟨n,e9 a _ (λz=>by rw[z,Ti] at e;cases e) n e⟩) ⟨l8,rfl,nl8,?_⟩;rw[kA _ _ nl8 (k9 _ _ np8 w8),bC];rfl
   .rw[h1];exact Gk _ _ ⟨⟨_,_,_,rfl⟩,CG,qZ,vF,tO,Ti,NF,Ku,Ed.trans (aJ h2)⟩
 .rintro U M5 ⟨⟨_,_,_,rfl⟩,s5,qZ,vF,tO,xo,Gp,A4,eu⟩;rw[lut,<-lT] at eu;have st:=(xr (nm:=k0) wv.cut (ts.map du).length).2;have bd:=(xr (nm:=k0) wv.cut (ts.map du).length).1.len;rw[eu] at st bd;rw[lT] at bd;obtain⟨_,l1,l2⟩:=st;refine nx _ _ ⟨_,?_,_,_,_,_,qZ,vF,tO,rfl,s5,xo,Gp,A4,⟨j+1,WA.trans eu⟩,rfl⟩;rw[List.length_concat];dsimp only at l1 l2 bd;omega
noncomputable def Tj {R:Type} [Nonempty R] (st:Nat->Option R):R:=Classical.epsilon λr=>∃n,(∀m,m<n->st m=none)/\st n=some r
def um {R:Type} [Nonempty R] {st:Nat->Option R}{n:Nat}{r:R}(h:∀m,m<n->st m=none) (k:st n=some r):r=Tj st:=by
 obtain⟨m,h2,k2⟩:=Vi (p:=λr=>∃n,(∀m,m<n->st m=none)/\st n=some r) ⟨r,n,h,k⟩;rcases Nat.lt_trichotomy n m with l|l|l
 .rw[h2 n l] at k;cases k
 .rw[l,k2] at k;exact(bf k).symm
 .rw[h m l] at k2;cases k2
def Tn (H:Hp) (v:V):Option (List Nat)->Prop
 |none=>v=.e_
 |some W=>∃p,v=.ref p/\H p=some (.lst (W.map iV))
noncomputable def CH (T:List Tr) (i:Nat):Option (Option (List Nat)):=match T[i]? with
 |none=>some none
 |some t=>if t.2.2=true/\t.1∈ku (Ef T [t.2.1]) then some (some (i::pY (Ef T [t.2.1]) t.1)) else none
noncomputable def U1 (T:List Tr):Option (List Nat):=Tj (CH T)
inductive JJ (H:Hp) (Q:VK):Aac->Prop
 |mk {a:aq} {us:Aac} {ts:List Td} (h:H a=some (.lst us)) (t:r_ H us ts) (l:ts.length<=100) (q:∀v H',bc H H'->Tn H' v (U1 (ts.map du))->Q v H'):JJ H Q [.ref a]
def Po:Sp:=λvs H Q _=>JJ H Q vs
abbrev Pr:=Str×Str
def acJ (H:Hp) (u:V) (q:Pr):Prop:=∃a,u=.ref a/\H a=some (.tup [.str q.1,.str q.2])
def acJ.mono {H}(h:acJ H u q) (k:TK H H'):acJ H' u q:=let⟨a,e,z⟩:=h;⟨a,e,k _ _ z⟩
abbrev F2 (H:Hp):Aac->List Pr->Prop:=Paired (acJ H)
def F2.mono {H}(h:F2 H us qs) (k:TK H H'):F2 H' us qs:=Paired.y9 h λ_ _ z=>z.mono k
def YK:List (Str×NameKind):=[(".0",.local),("pair",.local),("names",.free)]
def YL:(["pair","names"]:Aab).Nodup:=η
def U2 (fs sn:Pr->Str) (ks:Aab) (ps:List Pr):Aab:=ps.filterMap λq=>if fs q∈ks then some (sn q) else none
def Pp (ps:List Pr) (ks:Aab):Aab:=U2 Prod.fst Prod.snd ks ps++U2 Prod.snd Prod.fst ks ps
def Eh (ps:List Pr) (ks:Aab):(Pp ps ks).length<=2*ps.length:=by have h1:(U2 Prod.fst Prod.snd ks ps).length<=ps.length:=gL _ _;have h2:(U2 Prod.snd Prod.fst ks ps).length<=ps.length:=gL _ _;unfold Pp;rw[aA];omega
def NT (h:k∈Pp ps ks):k∈ps.map Prod.fst++ps.map Prod.snd:=by
 unfold Pp U2 at h;rw[aX] at h⊢;rcases h with h|h
 .obtain⟨q,h1,h2⟩:=di.mp h;split at h2
  .cases h2;exact .inr (dr h1)
  .cases h2
 .obtain⟨q,h1,h2⟩:=di.mp h;split at h2
  .cases h2;exact .inl (dr h1)
  .cases h2
inductive JK (H:Hp) (Q:VK):Aac->Prop
 |mk {b p l:aq} {JL:Aac} {ps:List Pr} {kvs:List (Key×V)} {ws:WS} (h:H b=some (.lst JL)) (t:F2 H JL ps) (lp:ps.length<=100) (hp:H p=some (.dK kvs)) (hw:pZ H l kvs ws) (q:∀r M,bc H M->M r=some (.lst ((Pp ps (ku ws)).map V.str))->Q (.ref r) M):JK H Q [.ref b,.ref p]
def Pq:Sp:=λvs H Q _=>JK H Q vs
def JM:Option Nat->V
 |none=>.e_
 |some n=>.int n
noncomputable def gr (T:List Tr) (ps:List Pr) (ws:WS):WS:=Ef T (ku ws++Pp ps (ku ws))
noncomputable def tP (T:List Tr) (ps:List Pr) (x:Str):Nat->WS:=up (λws _=>gr T ps ws) (Ef T [x])
noncomputable def F3 (T:List Tr) (ps:List Pr) (x y:Str) (n:Nat):Option (Option Nat):=if y∈ku (tP T ps x n) then some (some n) else if(tP T ps x (n+1)).length=(tP T ps x n).length then some none else none
noncomputable def yN (T:List Tr) (ps:List Pr) (x y:Str):Option Nat:=Tj (F3 T ps x y)
def mnO:Option Nat->Option Nat->Option Nat
 |none,r=>r
 |r,none=>r
 |some a,some b=>some (min a b)
noncomputable def fuF (T:List Tr) (ps:List Pr) (x y:Str):Option Nat:=mnO (yN T ps x y) (yN T ps y x)
inductive U3 (f:List Tr->List Pr->Str->Str->Option Nat) (H:Hp) (Q:VK):Aac->Prop
 |mk {a b:aq} {us JL:Aac} {ts:List Td} {ps:List Pr} {x y:Str} (h:H a=some (.lst us)) (t:r_ H us ts) (l:ts.length<=30) (hb:H b=some (.lst JL)) (p:F2 H JL ps) (lp:ps.length<=30) (q:∀H',bc H H'->Q (JM (f (ts.map du) ps x y)) H'):U3 f H Q [.ref a,.ref b,.str x,.str y]
noncomputable def YM:Sp:=λvs H Q _=>U3 yN H Q vs
noncomputable def FuC:Sp:=λvs H Q _=>U3 fuF H Q vs
def JN (F:gX K "ring" "ring" JC f fd) (T:Txt mg) (DC:Df P w K mg base 1 "is_clear" ["trial"] NI) (DW:Df P w K mg base 3 "ways_from" ["trials","starts"] Th):cG P w K mg base fK 4 f fd ["trials"] Po:=by
 have sc:bx ["trials","number","trial","ways"] ["trials"] (aP JC):={};exists sc;have hu:=nr hr;refine⟨_,az (gy bz rfl (piE K rfl T.enum (ae (pC 0) aj)) (rY 2 (gY (aM (i:=1) sc.nd) (gY (aM (i:=2) sc.nd) rX))) (aO (gI (pU (pD DC (hr.mono δ) (ae (pC 2) aj))) (az (iQ (i:=3) sc.nd (pD DW hr (ae (pC 0) (ae (oU (ae (bW eV (pC 2) aH) aj)) aj)))) (aO (gI (fG (FK hu) (bW eV (pC 2) aH) (pC 3) rfl) (aO (bK (bQ (RN K) (oU (ae (pC 1) aj)) (xk hu (pC 3) (bW eV (pC 2) aH) (λ_ _=>rfl))))) cj))) cj))) (aO (bK jK)),?_⟩;obtain @⟨a,us,ts,hS,hT,hl,q⟩:=h;have lut:us.length=ts.length:=d9 hT;refine Xa.mk hS (Im (λi U M=>(∃n t w,U=[some (.ref a),n,t,w])/\bc H M/\∀m,m<i->CH (ts.map du) m=none) ⟨⟨_,_,_,rfl⟩,bc.refl _,λm h=>absurd h (tX _)⟩ (λi U M h=>h.2.1 _ _ hS) ?_ ?_)
 .rintro i x U M5 D2 T M6 hx ⟨⟨_,_,_,rfl⟩,s5,no⟩ ⟨Gk,rt,_⟩ s6 hT6 nT;obtain⟨td,Gn,tr⟩:=Paired.get' hT hx;have CG:=s5.trans s6;have Te:=tr.mono (bc.tk CG);obtain⟨px,z,rfl,t1,t2⟩:=id Te;have e:CH (ts.map du) i=if(du td).2.2=true/\td.1∈ku (Ef (ts.map du) [td.2.1]) then some (some (i::pY (Ef (ts.map du) [td.2.1]) td.1)) else none:=by unfold CH;rw[aR,Gn];rfl
  have no':CH (ts.map du) i=none->∀m,m<i+1->CH (ts.map du) m=none:=λh m l=>(y6 (cN l)).elim (no m) λz=>by rw[z];exact h
  refine pT.mk hT6 rfl (Jy.mk Te ?_);show Ci _ _ (du td).2.2;cases hc:(du td).2.2 with
  |false=>exact Gk _ _ ⟨⟨_,_,_,rfl⟩,CG,no' (by rw[e,aI λz=>by rw[hc] at z;cases z.1])⟩
  |true=>
   refine hE.mk t1 (a_ (j:=1) rfl) (cU.mk rfl λb M7 s7 w7 n7=>JG.mk (ss:=[td.2.1]) ((CG.trans s7) _ _ hS) (hT.mono (bc.tk (CG.trans s7))) hl w7 ς λp l kvs M8 s8 hP hW wv=>?_);have U0:=s7.trans s8;have t8:=U0 _ _ t1;refine hE.mk t8 (a_ (j:=0) rfl) (wg.mk (jc.k (k:=.inr td.1) hP) ?_);rcases nQ td.1 hW with⟨h1,h2⟩|⟨ak,h1,h2,n3,h4⟩
   .rw[h1];exact Gk _ _ ⟨⟨_,_,_,rfl⟩,CG.trans U0,no' (by rw[e,aI λz=>h2 z.2])⟩
   rw[h1];have bl:(pY (Ef (ts.map du) [td.2.1]) td.1).length<=(Ef (ts.map du) [td.2.1]).length:=uk (k:=td.1) wv.vl;have bd:(Ef (ts.map du) [td.2.1]).length<=_:=wv.len;rw[ah,aE] at bd;refine cU.mk rfl λc M9 s9 w9 n9=>hE.mk (s9 _ _ t8) (a_ (j:=0) rfl) (AH.mk (h1▸jc.k (k:=.inr td.1) (s9 _ _ hP)) (yo.mk (gj.of w9) (s9 _ _ h4) (by rw[ah,aE];omega) λr MA sA wA nA=>rt _ _ (q _ _ (((CG.trans U0).trans s9).trans sA) ?_)));rw[show U1 (ts.map du)=some (i::pY (Ef (ts.map du) [td.2.1]) td.1) from(um no (by rw[e,aJ ⟨hc,h2⟩])).symm];exact⟨r,rfl,wA⟩
 .rintro U M ⟨⟨_,_,_,rfl⟩,s,no⟩;refine q _ _ s ?_;rw[show U1 (ts.map du)=none from(um (n:=us.length) no (by unfold CH;rw[iB (by rw[ah];omega)])).symm];rfl
def Pw (fs sn:Pr->Str) (i j:Int) (hf:∀q:Pr,xK [V.str q.1,V.str q.2] i=some (.str (fs q))/\xK [V.str q.1,V.str q.2] j=some (.str (sn q))) (hB:H1 b=some (.lst JL)) (Kv:F2 H1 JL ps) (pl:ps.length<=100) (hP:H1 p=some (.dK kvs)) (hW:pZ H1 l kvs ws) (hD:H1 D=none) (hq:∀M,bc H1 M->M D=some (.lst ((U2 fs sn (ku ws) ps).map V.str))->Q (.ref D) M):
  tj (Gb K b) (d_ 0) (nG (oH (Su id) (oH hE (vC 0) (tC (.int i))) (vC 1))) (oH hE (vC 0) (tC (.int j))) [none,some (.ref p)] H1 Q D:=by
 refine Kn (λ_ v b=>v=.str b) (λq:Pr=>if fs q∈ku ws then some (sn q) else none) (λU=>∃v,U=[v,some (.ref p)]) hD (wa hB) Kv (by have:JL.length=ps.length:=d9 Kv;omega) ⟨_,rfl⟩ (λ_ _ _ _ _ e=>e) ?_ λys M s w pr=>hq M s (by rw[w,pairE pr];rfl);rintro U M x q N Y ⟨v,rfl⟩ s ⟨a,rfl,ha⟩ hm hN hY;refine hE.mk (s _ _ ha) (hf q).1 (wg.mk (jc.k (k:=.inr (fs q)) (s _ _ hP)) ?_);rcases nQ (fs q) hW with⟨h1,h2⟩|⟨ak,h1,h2,_⟩
 .rw[h1];exact hN (aI h2) _ _ ⟨_,rfl⟩ (bc.refl _)
 .rw[h1];exact hE.mk (s _ _ ha) (hf q).2 (hY _ _ _ _ (aJ h2) ⟨_,rfl⟩ (bc.refl _) rfl)
def JO (F:gX K "partners" "partners" JD f fd):cG P w K mg base fK 1 f fd ["pairs","names"] Pq:=by have sc:bx ["pairs","names"] ["pairs","names"] (aP JD):={};exists sc;have hu:=nr hr;refine⟨_,aO (bK (bQ (RN K) (gm (N:=["pair","names"]) (g:=d_ 0) rfl (om K (pC 0)) (cY.one (v:="pair") (fr:="names") (j:=1) (nm:=YK) rfl rfl rfl rfl) (λ_ _ _=>aM (i:=0) YL) (λ_ _ _=>gK (fG (FK hu) (bW eV (pC 0) aH) (pC 1) rfl)) (λ_ _ _=>bW eV (pC 0) aH)) (gm (N:=["pair","names"]) (g:=d_ 0) rfl (om K (pC 0)) (cY.one (v:="pair") (fr:="names") (j:=1) (nm:=YK) rfl rfl rfl rfl) (λ_ _ _=>aM (i:=0) YL) (λ_ _ _=>gK (fG (FK hu) (bW eV (pC 0) aH) (pC 1) rfl)) (λ_ _ _=>bW eV (pC 0) aH)))),?_⟩;obtain @⟨b,p,l,JL,ps,kvs,ws,hB,Kv,lp,hP,hW,q⟩:=h;refine mZ.mk hB λD hD=>Pw Prod.fst Prod.snd 0 1 (λq=>⟨a_ (j:=0) rfl,a_ (j:=1) rfl⟩) hB Kv lp hP hW hD λM1 s1 w1=>?_;refine mZ.mk (s1 _ _ hB) λD2 MW=>Pw Prod.snd Prod.fst 1 0 (λq=>⟨a_ (j:=1) rfl,a_ (j:=0) rfl⟩) (s1 _ _ hB) (Kv.mono (bc.tk s1)) lp (s1 _ _ hP) (hW.up λa xs n e=>⟨n,s1 _ _ e⟩) MW λM2 s2 w2=>?_;have hl:=Eh ps (ku ws);unfold Pp at hl q;rw[aA] at hl;exact yo.mk (gj.of (s2 _ _ w1)) w2 (by simp only[ah];omega) λr M s w n=>q r M ((s1.trans s2).trans s) (by rw[w,bC])
def NU (F:gX K "fewest_between" "fewest_between" Tf f fd) (T:Txt mg) (DW:Df P w K mg base 3 "ways_from" ["trials","starts"] Th) (DP:Df P w K mg base 1 "partners" ["pairs","names"] Pq):
  cG P w K mg base fK 4 f fd ["trials","pairs","one","other"] YM:=by
 have sc:bx ["trials","pairs","one","other","reached","many","grown"] ["trials","pairs","one","other"] (aP Tf):={};exists sc;have hu:=nr hr;refine⟨_,az (iQ (i:=4) sc.nd (pD DW hr (ae (pC 0) (ae (oU (ae (pC 2) aj)) aj)))) (az (iQ (i:=5) sc.nd aH) (az (ym bz (fG (Sw hu) (pC 3) (pC 4) rfl) (az (iQ (i:=6) sc.nd (pD DW hr (ae (pC 0) (ae (bQ (RN K) (dO (Pb rfl) rfl T.list eA (ae (pC 4) aj)) (pD DP (hr.mono δ) (ae (pC 1) (ae (pC 4) aj)))) aj)))) (az (gI (fG oQ (bj Pa rfl T.len bY (ae (pC 6) aj)) (bj Pa rfl T.len bY (ae (pC 4) aj)) (cO _)) (aO (bK jK)) cj) (az (iQ (i:=4) sc.nd (pC 6)) (aO (Ql (i:=5) sc.nd rfl (Or.inl rfl) aH Qm)))))) (aO (bK (pC 5))))),?_⟩;obtain @⟨a,b,us,JL,ts,ps,x,y,hS,hT,hl,hB,Kv,pl,q⟩:=h;have lT:(ts.map du).length=ts.length:=ah _;generalize hTT:ts.map du=TT at*;have bnd:∀n,(∀k∈ku (tP TT ps x n),k∈[x]++Jw TT++(ps.map Prod.fst++ps.map Prod.snd))->(ku (tP TT ps x n)).Nodup->(tP TT ps x n).length<=1+2*ts.length+2*ps.length:=λn h nd=>by have:=nM nd h;rw[aA,aA,uj,aA,ah,ah,ah,aE,lT] at this;omega
 refine cU.mk rfl λc M1 s1 w1 n1=>JG.mk (ss:=[x]) (s1 _ _ hS) (hT.mono (bc.tk s1)) ω w1 ς λp l kvs M2 s2 hP hW wv=>?_;rw[hTT] at hW wv;refine Ck (λm U M=>∃p l kvs g,∃n:Nat,U=[some (.ref a),some (.ref b),some (.str x),some (.str y),some (.ref p),some (.int n),g]/\bc H M/\M p=some (.dK kvs)/\pZ M l kvs (tP TT ps x n)/\(∀k∈ku (tP TT ps x n),k∈[x]++Jw TT++(ps.map Prod.fst++ps.map Prod.snd))/\(ku (tP TT ps x n)).Nodup/\(∀m,m<n->F3 TT ps x y m=none)/\m=1+2*ts.length+2*ps.length-(tP TT ps x n).length) _ ⟨p,l,kvs,_,0,rfl,s1.trans s2,hP,hW,λk hk=>bh _ (wv.sub k hk),wv.nd,λm h=>absurd h (tX _),rfl⟩ ?_;rintro m U M D' ⟨p,l,kvs,g,n,rfl,sm,hP,hW,sub,nd,no,rfl⟩ ⟨nx,rt,_⟩;have bd:=bnd n sub nd;refine wg.mk (jc.k (k:=.inr y) hP) ?_;rcases nQ y hW with⟨h1,h2⟩|⟨ak,h1,h2,n3,h4⟩
 .rw[h1];have lk:kvs.length=(tP TT ps x n).length:=d9 hW;have ek:(kvs.map λkv=>kV kv.1)=(ku (tP TT ps x n)).map V.str:=by
   clear h1 h2 bd no nd sub lk hP;generalize tP TT ps x n=ws at hW;induction hW with
   |nil=>rfl
   |cons h t ih=>obtain⟨a,rfl,_⟩:=h;rw[bG,ih];rfl
  have OG:=Eh ps (ku (tP TT ps x n));refine D8.mk hP λc M3 s3 w3 n3=>JK.mk ((sm.trans s3) _ _ hB) (Kv.mono (bc.tk (sm.trans s3))) ω (s3 _ _ hP) (hW.up λa xs n e=>⟨n,s3 _ _ e⟩) λr M4 s4 w4=>?_;rw[ek] at w3;refine yo.mk (gj.of (s4 _ _ w3)) w4 (by simp only[ah];omega) λc5 M5 s5 w5 n5=>?_;rw[<-bC] at w5;have CD:=(s3.trans s4).trans s5;have sm5:=sm.trans CD;refine JG.mk (sm5 _ _ hS) (hT.mono (bc.tk sm5)) ω w5 (by rw[aA,ah];omega) λp2 l2 tO M6 s6 xo A4 JI=>?_;rw[hTT] at A4 JI;have hP6:=s6 _ _ (CD _ _ hP);have eW:Ef TT (ku (tP TT ps x n)++Pp ps (ku (tP TT ps x n)))=tP TT ps x (n+1):=rfl;rw[eW] at A4 JI;have lk2:tO.length=(tP TT ps x (n+1)).length:=d9 A4;have YN:∀k∈ku (tP TT ps x (n+1)),k∈[x]++Jw TT++(ps.map Prod.fst++ps.map Prod.snd):=λk hk=>by
   rcases aX.mp (JI.sub k hk) with h|h
   .rcases aX.mp h with h|h
    .exact sub k h
    .exact aD _ (NT h)
   .exact bh _ (aD _ h)
  have bd2:=bnd (n+1) YN JI.nd;have le:(ku (tP TT ps x n)).length<=(ku (tP TT ps x (n+1))).length:=nM nd λk hk=>JI.st k (bh _ hk);rw[ah,ah] at le;have e:F3 TT ps x y n=if(tP TT ps x (n+1)).length=(tP TT ps x n).length then some none else none:=by unfold F3;rw[aI h2]
  refine Nh.mk xo (Nh.mk hP6 ?_);rw[lk,lk2];refine Mv (λc=>?_) λc=>?_
  .have z:=um no (e.trans (aJ (Int.ofNat_inj.mp c)));have q:=q M6 (sm5.trans s6);rw[show yN TT ps x y=none from z.symm] at q;exact rt _ _ q
  .have ne:¬(tP TT ps x (n+1)).length=(tP TT ps x n).length:=λz=>c (dA _ z);refine⟨_,rfl,_,_,rfl,rfl,nx _ _ ⟨_,?_,p2,l2,tO,_,n+1,rfl,sm5.trans s6,xo,A4,YN,JI.nd,λm l=>(y6 (cN l)).elim (no m) λz=>by rw[z,e,aI ne],rfl⟩⟩;omega
 .rw[h1];have z:=um no (show F3 TT ps x y n=some (some n) by unfold F3;rw[aJ h2]);have q:=q M sm;rw[show yN TT ps x y=some n from z.symm] at q;exact q
def NV (F:gX K "further" "further" Tg f fd) (T:Txt mg) (DF:Df P w K mg base 4 "fewest_between" ["trials","pairs","one","other"] YM):cG P w K mg base fK 5 f fd ["trials","pairs","one","other"] FuC:=by
 have sc:bx ["trials","pairs","one","other","both_ways"] ["trials","pairs","one","other"] (aP Tg):={};exists sc;refine⟨_,az (iQ (i:=4) sc.nd (oU (ae (pD DF hr (ae (pC 0) (ae (pC 1) (ae (pC 2) (ae (pC 3) aj))))) (ae (pD DF hr (ae (pC 0) (ae (pC 1) (ae (pC 3) (ae (pC 2) aj))))) aj)))) (aO (bK (Lv rfl rfl T.min (gm (N:=["many"]) (g:=d_ 0) rfl (om K (pC 4)) (cY.closed rfl) (λ_ _ _=>aM (i:=0) (Z0 _)) (λ_ _ _=>gK (fG Dz (pC 0) jK (cO _))) (λ_ _ _=>pC 0))))),?_⟩;obtain @⟨a,b,us,JL,ts,ps,x,y,hS,hT,hl,hB,Kv,pl,q⟩:=h;refine U3.mk hS hT hl hB Kv pl λM1 s1=>U3.mk (s1 _ _ hS) (hT.mono (bc.tk s1)) hl (s1 _ _ hB) (Kv.mono (bc.tk s1)) pl λM2 s2=>cU.mk rfl λc M3 s3 w3 n3=>?_;refine mZ.mk w3 λD hD=>Kn (as:=[yN (ts.map du) ps x y,yN (ts.map du) ps y x]) (R:=λv r=>v=JM r) (λ_ v (n:Nat)=>v=.int n) id (λU=>∃v,U=[v]) hD (wa w3) (.cons rfl (.cons rfl .nil)) ς ⟨_,rfl⟩ (λ_ _ _ _ _ e=>e) ?_ λys M s w pr=>?_
 .rintro U M v r N Y ⟨_,rfl⟩ s rfl hm hN hY;cases r with
  |none=>exact hN rfl _ _ ⟨_,rfl⟩ (bc.refl _)
  |some n=>exact hY _ _ _ _ rfl ⟨_,rfl⟩ (bc.refl _) rfl
 have q:=q M (((s1.trans s2).trans s3).trans s);unfold fuF at q;rw[pairE pr] at w;generalize yN (ts.map du) ps x y=r1 at*;generalize yN (ts.map du) ps y x=r2 at*;cases r1 with
 |none=>
  cases r2 with
  |none=>exact⟨D,[],rfl,gj.of w,λ_=>q,λm hm=>nomatch hm⟩
  |some n=>exact⟨D,[(n:Int)],rfl,gj.of w,λz=>(nomatch z),λm hm hk=>by rw[aK.mp hm];exact q⟩
 |some m=>
  cases r2 with
  |none=>exact⟨D,[(m:Int)],rfl,gj.of w,λz=>(nomatch z),λm hm hk=>by rw[aK.mp hm];exact q⟩
  |some n=>
   refine⟨D,[(m:Int),(n:Int)],rfl,gj.of w,λz=>(nomatch z),λk hm hk=>?_⟩;have h1:=hk m ς;have h2:=hk n ς;rw[show k=((min m n:Nat):Int) by
    rcases aU.mp hm with e|e
    .omega
    .rw[aK] at e;omega];exact q
abbrev To:Stmt:=top 61
abbrev Tp:Stmt:=top 62
abbrev Tq:Stmt:=top 63
def lastOf (t:Aab):Aab:=t.getLast?.toList
def JP (t:Aab):gO (t.map V.str) (some (-1)) none=(lastOf t).map V.str:=by
 have h:gF (t.map V.str).length 0 (some (-1))=t.length-1:=by show(if(-1:Int)<0 then(-1+((t.map V.str).length:Int)).toNat else min (-1:Int).toNat (t.map V.str).length)=t.length-1;rw[aJ δ,ah];omega
 unfold gO;rw[h,jD,ah];rcases iF t with rfl|⟨l,x,rfl⟩
 .rfl
 .rw[iG];have e1:(l++ [x]).length-1=(l.map V.str).length:=ς;rw[e1,bC,List.drop_left];unfold lastOf;rw[lX];simp
def rise (ss:Aab):Nat->List (Aab)
 |0=>[[]]
 |k+1=>(rise ss k).flatMap λt=>ss.filterMap λn=>if mQ (lastOf t) [n]=true then some (t++ [n]) else none
def j_:∀(k:Nat) (t:Aab),t∈rise ss k->t.length=k/\∀n∈t,n∈ss
 |0,t,h=>by rw[rise,aK] at h;rw[h];exact⟨rfl,λ_ h=>nomatch h⟩
 |k+1,t,h=>by
  rw[rise,jj] at h;obtain⟨u,hu,h⟩:=h;obtain⟨n,hn,e⟩:=di.mp h;split at e
  .cases e;obtain⟨h1,h2⟩:=j_ k u hu;refine⟨by rw[aA,aE,h1],λm hm=>?_⟩;rcases aX.mp hm with z|z
   .exact h2 m z
   .rw[aK.mp z];exact hn
  .cases e
def rf (hs:ss.length<=8):∀k:Nat,(rise ss k).length<=8^k
 |0=>ao _
 |k+1=>by rw[rise,Bg];exact aB (qW (λ_=>aB (gL _ _) hs) _) (vL _ (rf hs k))
def xt (up:Up ss):∀k,k<=ss.length->ss.take k∈rise ss k
 |0,_=>.head _
 |k+1,h=>by
  have e:ss=ss.take k++ss[k]::ss.drop (k+1):=by rw[Vh,fw]
  rw[rise,jj];refine⟨_,xt up k (iK h),di.mpr ⟨ss[k],dD _,?_⟩⟩;rw[aJ,bM,ag h];rfl;rcases iF (ss.take k) with z|⟨l,x,z⟩
  .rw[z];rfl
  .rw[iG] at z;rw[z,show lastOf (l++ [x])=[x] by unfold lastOf;rw[lX];rfl,jZ];have up':=up;unfold Up at up';rw[e,z] at up';have lt:dH x ss[k]=true:=(List.pairwise_append.mp up').2.2 x ς _ (.head _);rw[aI λz=>by rw[z,oh] at lt;cases lt];exact lt
def o7 (ss:Aab):List (Aab):=(rise (ss.drop 1) (ss.length/2-1)).map λt=>ss.take 1++t
def YO (xs:Aac):gO xs (some 1) none=xs.drop 1:=by
 unfold gO;rw[show gF xs.length 0 (some 1)=min 1 xs.length from ju xs.length 0 1,jD];cases xs with
 |nil=>rfl
 |cons x xs=>simp
def Ei (xs:Aac):gO xs none (some 1)=xs.take 1:=by
 unfold gO;rw[show gF xs.length xs.length (some 1)=min 1 xs.length from ju xs.length xs.length 1,jD];cases xs with
 |nil=>rfl
 |cons x xs=>simp
def YQ:List (Str×NameKind):=[(".0",.local),("name",.local),("weights",.free)]
def YR:(["name","weights"]:Aab).Nodup:=η
def Ts:(["name","sides","weight"]:Aab).Nodup:=η
def YS:List (Str×NameKind):=[(".0",.local),("pick",.local),("name",.local),("names",.free)]
def Px:(["pick","name","names"]:Aab).Nodup:=η
def YT:List (Str×NameKind):=[(".0",.local),("pick",.local),("tuple",.globalImplicit),("rising",.free)]
def YU:(["pick","rising"]:Aab).Nodup:=η
inductive Tt (H:Hp) (Q:VK):Aac->Prop
 |mk {p:aq} {ss:Aab} {n:Int} (h:H p=some (.lst (ss.map V.str))) (l:ss.length<=8) (n0:0<=n) (n3:n<=3) (q:∀l us M,bc H M->M l=some (.lst us)->acI M us (rise ss n.toNat)->Q (.ref l) M):Tt H Q [.ref p,.int n]
def YV:Sp:=λvs H Q _=>Tt H Q vs
inductive Tu (H:Hp) (Q:VK):Aac->Prop
 |mk {p:aq} {ss:Aab} (h:H p=some (.lst (ss.map V.str))) (up:Up ss) (l4:4<=ss.length) (l:ss.length<=8) (q:∀l us M,bc H M->H l=none->M l=some (.lst us)->acI M us (o7 ss)->Q (.ref l) M):Tu H Q [.ref p]
def YW:Sp:=λvs H Q _=>Tu H Q vs
inductive EvI (H:Hp) (Q:VK):Aac->Prop
 |mk {p:aq} {us:Aac} {rows:List jN} {x:Str} {r:Aab} (h:H p=some (.lst us)) (t:Paired (gZ H) us rows) (e:eO rows=x::r) (up:Up (eO rows)) (ev:rows.length %2=0) (l4:4<=rows.length) (l8:rows.length<=8) (so:∀n∈eO rows,PyData.strOk n=true) (q:∀(t l:aq) (d:Int) (u:Aab) M,bc H M->M t=some (.tup [.int d,.ref l])->M l=some (.tup ((x::u).map V.str))->Q (.ref t) M):EvI H Q [.ref p]
def EvC:Sp:=λvs H Q _=>EvI H Q vs
def NW (F:gX K "rising_picks" "rising_picks" To f fd) (T:Txt mg):cG P w K mg base fK 1 f fd ["names","many"] YV:=by
 have sc:bx ["names","many","picks","length"] ["names","many"] (aP To):={};exists sc;refine⟨_,az (iQ (i:=2) sc.nd (oU (ae (jx aj) aj))) (az (gy bz rfl (UN rfl T.range (ae (pC 1) aj)) (aM (i:=3) sc.nd) (aO (wX (i0:=2) (N:=["pick","name","names"]) (g:=d_ 0) (g2:=d_ 1) sc.nd rfl (Or.inl rfl) rfl (om K (pC 2)) (cY.Fm ["pick","name"] (fr:="names") (j:=0) (nm:=YS) rfl rfl rfl (.inl rfl) η η η η η) (λ_ _ _=>aM (i:=0) Px) (λ_ _ _=>eD) (λ_ _ _=>om K (pC 2)) (λ_ _ _=>aM (i:=1) Px) (λ_ _ _=>gK (fG (abH hr.units) (gx slA (pC 0) (tI (sv Ao aH)) jv) (jx (ae (pC 1) aj)) (cO _))) (λ_ _ _=>bQ Dx (pC 0) (jx (ae (pC 1) aj)))))) (aO (bK (pC 2)))),?_⟩;obtain @⟨p,ss,n,hp,hs,n0,n3,q⟩:=h;refine cU.mk rfl λe M1 s1 w1 n1=>cU.mk rfl λpk M2 s2 w2 n2=>OV.mk n0 ω (Dy (λi U M=>∃v pk us,U=[some (.ref p),some (.int n),some (.ref pk),v]/\bc H M/\M pk=some (.lst us)/\acI M us (rise ss i)) ⟨_,pk,[.ref e],rfl,s1.trans s2,w2,.cons ⟨e,rfl,s2 _ _ w1⟩ .nil⟩ ?_ ?_)
 .rintro i U M D' hi ⟨v,pk,us,rfl,sm,hk,hT⟩ ⟨nx,_⟩;have lu:us.length=(rise ss i).length:=ee hT;have h8:(rise ss i).length<=512:=aB (rf hs i) (cH δ (by omega:i<=3));refine mZ.mk hk λD hD=>XZ (K:=K) (p:=p) TupAt (λt n=>if mQ (lastOf t) [n]=true then some (t++ [n]) else none) (λU=>∃a b,U=[a,b,some (.ref p)]) (λx U=>∃b,U=[some x,b,some (.ref p)]) hD (wa hk) hT (sm _ _ hp) kI (by rw[ah];exact aB (vM (by omega:us.length+1<=513) hs) δ) ⟨_,_,rfl⟩ (λ_ _ _ _ t h=>h.up t) (λx U ⟨b,e⟩=>⟨_,_,e⟩) ?_ ?_ ?_
  .rintro U M' x a Z ⟨_,_,rfl⟩ s r ha hz;exact mZ.mk (s _ _ (sm _ _ hp)) (hz _ ⟨_,rfl⟩)
  .rintro U M' x t y m N Y ⟨_,rfl⟩ s ⟨a,rfl,h1⟩ ht rfl hm hN hY;refine SlA.mk (s _ _ h1) λc M3 s3 w3=>cU.mk rfl λd M4 s4 w4 n4=>LtT.mk (ss:=lastOf t) (zs:=[m]) (by rw[<-JP];exact s4 _ _ w3) w4 ?_;show if mQ (lastOf t) [m]=true then _ else _;by_cases c:mQ (lastOf t) [m]=true
   .rw[aJ c];refine cU.mk rfl λd5 M5 s5 w5 n5=>mS.any (s5 _ _ (s4 _ _ (s3 _ _ (s _ _ h1)))) w5 ς (by have:=(j_ i t ht).1;simp only[ah,aE];omega) λr M6 s6 w6=>hY _ _ _ _ (aJ c) ⟨_,rfl⟩ (((s3.trans s4).trans s5).trans s6) ⟨r,rfl,by rw[w6,bC];rfl⟩
   .rw[aI c];exact hN (aI c) _ _ ⟨_,rfl⟩ (s3.trans s4)
  .exact λzs M' s w pr=>nx _ _ ⟨_,D,zs,rfl,sm.trans s,w,pr⟩
 .rintro U M ⟨v,pk,us,rfl,sm,hk,hT⟩;exact q pk us M sm hk hT
def NX (F:gX K "crews_with_first" "crews_with_first" Tp f fd) (T:Txt mg) (DR:Df P w K mg base 1 "rising_picks" ["names","many"] YV):cG P w K mg base fK 2 f fd ["names"] YW:=by
 have sc:bx ["names","rising"] ["names"] (aP Tp):={};exists sc;refine⟨_,az (kR (i:=1) sc.nd rfl (Or.inr rfl) (bj O0 rfl T.sorted P_ (ae (pC 0) aj))) (aO (bK (gm (N:=["pick","rising"]) (g:=d_ 0) rfl (om K (pD DR hr (ae (gx qz (pC 1) (tI aH) jv) (ae (bQ (oK rH) (bQ (yX tY) (bj mw rfl T.len bY (ae (pC 1) aj)) aH) aH) aj)))) (cY.one (v:="pick") (fr:="rising") (j:=1) (nm:=YT) rfl rfl rfl rfl) (λ_ _ _=>aM (i:=0) YU) (λ_ _ _=>eD) (λ_ _ _=>bQ Dx (dO tH rfl T.tuple bO (ae (gx qz (pC 1) jv (tI aH)) aj)) (pC 0))))),?_⟩;obtain @⟨p,ss,hp,up,l4,l8,q⟩:=h;refine we.mk hp ω λl zs M1 s1 w1 n1 pm so=>?_;rw[up_eq (jq so (pm.nodup_iff.mpr up.nodup)) up pm] at w1;obtain⟨x,r,rfl⟩:∃x r,ss=x::r:=by cases ss with|nil=>simp at l4|cons x r=>exact⟨x,r,rfl⟩
 rw[bE] at l4 l8;refine Fy.l w1 λp2 M2 s2 w2 n2=>kj.l (s2 _ _ w1) ⟨⟨δ,δ⟩,?_⟩;rw[YO] at w2;refine Tt.mk (ss:=r) w2 ω (by rw[ah,bE];omega) (by rw[ah,bE];omega) λb us M3 s3 w3 hT=>?_;rw[show((((x::r).map V.str).length:Int)/2-1).toNat=(r.length+1)/2-1 by rw[ah,bE];omega] at hT;have lu:us.length<=512:=by have h1:us.length=_:=ee hT;have h2:=aB (rf (ss:=r) ω ((r.length+1)/2-1)) (cH δ (by omega:(r.length+1)/2-1<=3));omega
 have w13:=(s2.trans s3) _ _ w1;refine mZ.mk w3 λD hD=>Gi (xs:=us) TupAt (λt=>x::t) (λU=>∃v,U=[v,some (.ref l)]) hD (wa w3) hT ω ⟨_,rfl⟩ (λ_ _ _ _ t h=>h.up t) ?_ λys M s w pr=>q D ys M ((s1.trans (s2.trans s3)).trans s) ((s1.trans (s2.trans s3)).pj hD) w pr;rintro U M v t Y ⟨_,rfl⟩ s ⟨a,rfl,ha⟩ ht hY;refine Fy.l (s _ _ w13) λc M4 s4 w4 n4=>oV.l w4 λd M5 s5 w5 n5=>mS.any w5 (s5 _ _ (s4 _ _ (s _ _ ha))) ?_ ?_ λe M6 s6 w6=>hY _ _ _ ⟨_,rfl⟩ ((s4.trans s5).trans s6) ⟨e,rfl,by rw[w6,Ei];rfl⟩
 .have:=(j_ _ _ ht).1;intro z;rw[List.map_eq_nil_iff] at z;rw[z] at this;simp at this;omega
 .have:=(j_ _ _ ht).1;rw[Ei,ah,bG,List.take_succ_cons,bE];simp;omega
def Tv (F:gX K "evened" "evened" Tq f fd) (T:Txt mg) (DC:Df P w K mg base 2 "crews_with_first" ["names"] YW):cG P w K mg base fK 3 f fd ["rowers"] EvC:=by
 have sc:bx ["rowers","weights","whole","partings","crew","ours"] ["rowers"] (aP Tq):={};exists sc;have hu:=nr hr;refine⟨_,az (gI (fG oQ (bQ (yX kT) (bj mw rfl T.len bY (ae (pC 0) aj)) aH) aH (cO _)) dJ cj) (az (kR (i:=1) sc.nd rfl (Or.inr rfl) (OK (N:=["name","sides","weight"]) rfl (om K (pC 0)) (cY.closed rfl) (λ_ _ _=>rY 3 (gY (aM (i:=0) Ts) (gY (aM (i:=1) Ts) (gY (aM (i:=2) Ts) rX)))) (λ_ _ _=>eD) (λ_ _ _=>pC 0) (λ_ _ _=>pC 2))) (az (iQ (i:=2) sc.nd (bj X6 rfl T.sum kZ (ae (QF Uo PQ PySem.F.type_dict_values SA (pC 1)) aj))) (az (iQ (i:=3) sc.nd (oU aj)) (az (gy bz rfl (om K (pD DC hr (ae (dO (Pb rfl) rfl T.list eA (ae (pC 1) aj)) aj))) (aM (i:=4) sc.nd) (az (iQ (i:=5) sc.nd (bj abI rfl T.sum kZ (ae (gm (N:=["name","weights"]) (g:=d_ 0) rfl (Cj K (pC 4)) (cY.one (v:="name") (fr:="weights") (j:=1) (nm:=YQ) rfl rfl rfl rfl) (λ_ _ _=>aM (i:=0) YR) (λ_ _ _=>eD) (λ_ _ _=>xk hu (pC 1) (pC 0) (λ_ _=>rfl))) aj))) (aO (eR (pV cI cJ pf (pC 3) (ae (jx (ae (bj lB rfl T.abs j9 (ae (bQ (oK rH) (pC 2) (bQ (yX kS) aH (pC 5))) aj)) (ae (pC 4) aj))) aj)))))) (aO (bK (bj (X7 hr.units) rfl T.min ur (ae (pC 3) aj)))))))),?_⟩;obtain @⟨p,us,rows,x,r,hp,pr,en,up,ev,l4,l8,so,q⟩:=h;have lu:us.length=rows.length:=ee pr;refine kj.l hp ⟨(show(0:Int)<2 by decide),ifN ω ?_⟩;refine mZ.mk hp λD hD=>dcW (λi kvs U M=>(∃a b c,U=[a,b,c])/\bc H M/\kvs=(rows.take i).map wE) hD ω (wa hp) ⟨⟨_,_,_,rfl⟩,bZ hD _,rfl⟩ (λ_ _ _ _ h=>h.2.1) ?_ ?_
 .rintro i v kvs U M hv hy ⟨⟨_,_,_,rfl⟩,s,rfl⟩;obtain⟨r0,hr0,a,rfl,ha⟩:=je pr i _ hv;refine pT.mk (s _ _ ha) rfl ⟨.inr r0.1,rfl,hy,⟨_,_,_,rfl⟩,λy o e=>?_,?_⟩
  .rw[bN (λz=>by rw[z,hD] at e;cases e)];exact s _ _ e
  .obtain⟨tk,nin⟩:=AI up.nodup hr0;rw[tk];exact Jg nin
 rintro kvs U M1 w1 ⟨_,s1,rfl⟩;rw[lu,bX] at w1;refine⟨.inr (.inr (.inl ⟨rfl,.inl ⟨_,w1⟩⟩)),Jf.mk w1 λv M2 s2 w2=>Sy.mk (ns:=rows.map λr=>r.2.2) w2 (s2 _ _ w1) (by rw[jh,jh];rfl) λW=>cU.mk rfl λpa M3 s3 w3 n3=>?_⟩;have zU:=(s1.trans s2).trans s3;have d3:=s3 _ _ (s2 _ _ w1);refine D8.mk d3 λl M4 s4 w4 n4=>Tu.mk (ss:=eO rows) (by rw[w4];unfold eO;rw[jh,jh];rfl) up (by unfold eO;rw[ah];omega) (by unfold eO;rw[ah];omega) λb cs M5 s5 n5 w5 hT=>?_;have CD:=s4.trans s5;have d5:=CD _ _ d3;have p5:=CD _ _ w3;have nb:b≠pa:=λz=>by rw[z,s4 _ _ w3] at n5;cases n5
 have nH:H pa=none:=(s1.trans s2).pj n3;have mem:∀c∈o7 (eO rows),(∃u,c=x::u)/\(∀n∈c,n∈eO rows)/\c.length<=8:=λc hc=>by have hn:(eO rows).length=rows.length:=ah _;unfold o7 at hc;rw[en] at hc hn;obtain⟨t,ht,rfl⟩:=br.mp hc;refine⟨⟨t,rfl⟩,λn hn=>?_,by have:=(j_ _ _ ht).1;show t.length+1<=8;omega⟩;rw[en];exact(aU.mp hn).elim (λz=>by rw[z];exact .head _) λz=>.tail _ ((j_ _ _ ht).2 n z)
 have lc:cs.length<=512:=by have h1:cs.length=_:=ee hT;have hn:(eO rows).length=rows.length:=ah _;have h2:=aB (rf (ss:=(eO rows).drop 1) (by rw[cK];omega) ((eO rows).length/2-1)) (cH δ (by omega:(eO rows).length/2-1<=3));unfold o7 at h1;rw[ah] at h1;omega
 have ne:o7 (eO rows)≠[]:=λz=>by have h1:(eO rows).length=rows.length:=ah _;have h2:=xt (ss:=(eO rows).drop 1) (up.sublist (List.drop_sublist _ _)) ((eO rows).length/2-1) (by rw[cK];omega);unfold o7 at z;rw[List.map_eq_nil_iff] at z;rw[z] at h2;cases h2
 refine mZ.mk w5 (lN (λi U M=>∃v4 v5,∃ps:List OJ,U=[some (.ref p),some (.ref D),some (.int W),some (.ref pa),v4,v5]/\cX pa M5 M/\M pa=some (.lst (ps.map λt=>V.ref t.t))/\(∀t∈ps,HE M t/\t.o∈o7 (eO rows))/\ps.length=i) ⟨_,_,[],rfl,cX.refl _ _,p5,λ_ h=>(nomatch h),rfl⟩ (λi U M ⟨_,_,_,_,k,_⟩=>k _ _ nb w5) ?_ ?_)
 .rintro i v U M D' hv ⟨_,_,ps,rfl,kp,hP,ok,lp⟩ ⟨nx,_⟩;obtain⟨c,hc,a,rfl,ha⟩:=je hT i _ hv;have hcm:=aY hc;have na:a≠pa:=λz=>by rw[z,p5] at ha;cases ha
  have ha':=kp _ _ na ha;have hD':=kp _ _ (λz=>by rw[z,p5] at d5;cases d5) d5;refine An.mk ha' λL hL=>Kn (β:=Int) (λ_ v b=>v=.int b) (λn=>match gP (rows.map wE) (.inr n) with|some (.int i)=>some i|_=>none) (λU=>∃v,U=[v,some (.ref D)]) hL (OY ha') kI (by have:=(mem c hcm).2.2;rw[ah];omega) ⟨_,rfl⟩ (λ_ _ _ _ _ e=>e) ?_ λys N s w pr=>?_
  .rintro U N v n _ Y ⟨_,rfl⟩ s rfl hn _ hY;have hi:=Cw ((mem c hcm).2.1 n hn);exact AH.mk (v:=.int (FN rows n)) (hi▸jc.k (k:=.inr n) (s _ _ hD')) (hY _ (FN rows n) _ _ (by rw[hi]) ⟨_,rfl⟩ (bc.refl _) rfl)
  .rw[pairE pr] at w;refine Sx.mk w λS=>⟨IsL.mk (s _ _ hP),?_⟩;refine⟨.inl ⟨δ,δ⟩,_,rfl,cU.mk rfl λt N2 s2 w2 n2=>tF.mk (s2 _ _ (s _ _ hP)) (by have:=(aF.mp hv).1;rw[ah];omega) λN3 k3 w3=>?_⟩;have xo:=s2 _ _ (s _ _ hP);have tk:=yF xo k3;have nt:t≠pa:=λz=>by rw[z,s _ _ hP] at n2;cases n2
   obtain⟨d,w2⟩:∃d,N2 t=some (.tup [.int d,.ref a]):=⟨_,w2⟩;refine nx _ _ ⟨_,_,ps++ [⟨t,a,d,c⟩],rfl,λy o n e=>k3 _ _ n (s2 _ _ (s _ _ (kp _ _ n e))),by rw[w3,bC];rfl,λu hu=>?_,by rw[aA,lp];rfl⟩;rcases aX.mp hu with h|h
   .obtain⟨⟨h1,h2,h3⟩,h4⟩:=ok u h;exact⟨⟨tk _ _ (s2 _ _ (s _ _ h1)),tk _ _ (s2 _ _ (s _ _ h2)),h3⟩,h4⟩
   .rw[aK.mp h];exact⟨⟨k3 _ _ nt w2,tk _ _ (s2 _ _ (s _ _ ha')),λz hz=>so z ((mem c hcm).2.1 z hz)⟩,hcm⟩
 .rintro U M ⟨_,_,ps,rfl,kp,hP,ok,lp⟩;refine Sz.mk hP (λz=>?_) (λt ht=>(ok t ht).1) λt ht=>?_
  .rw[z] at lp;rw[ee hT] at lp;exact ne (fH.mp lp.symm)
  .obtain⟨u,e⟩:=(mem _ (ok t ht).2).1;have o:=(ok t ht).1;exact q t.t t.l t.n u M (λy o e=>kp _ _ (λz=>by rw[z,nH] at e;cases e) (CD _ _ (zU _ _ e))) o.1 (by rw[<-e];exact o.2.1)
def Ly (n:Nat) (d:PyData):Prop:=d.canLay0=true/\d.depth<=n
mutual
def lU:∀d:PyData,d.canLay0=true->PyData.eqv d d=true
 | .none,_=>by simp[PyData.eqv]
 | .bool _,_=>by simp[PyData.eqv]
 | .int _,_=>by simp[PyData.eqv]
 | .str _,_=>by simp[PyData.eqv]
 | .list ds,h=>by rw[PyData.canLay0] at h;rw[PyData.eqv];exact se ds h
 | .tuple ds,h=>by rw[PyData.canLay0] at h;rw[PyData.eqv];exact se ds h
 | .dict _,h=>by rw[PyData.canLay0] at h;cases h
def se:∀ds:List PyData,PyData.canLayAll0 ds=true->PyData.eqvAll ds ds=true
 | [],_=>by simp[PyData.eqvAll]
 |d::ds,h=>by rw[PyData.canLayAll0,cA] at h;rw[PyData.eqvAll,lU d h.1,se ds h.2];rfl
end
def Ly.lay (h:Ly n d) (hn:n<=20):Lay d:=⟨h.1,aB h.2 hn⟩
def Ly.mono (h:Ly n d) (hn:n<=m):Ly m d:=⟨h.1,aB h.2 hn⟩
def gJ (i:Int):Ly 0 (.int i):=⟨by simp only[PyData.canLay0],by simp[PyData.depth]⟩
def JQ:Ly 0 .none:=⟨by simp only[PyData.canLay0],by simp[PyData.depth]⟩
def nS (h:PyData.strOk x=true):Ly 0 (.str x):=⟨by simp only[PyData.canLay0];exact h,by simp[PyData.depth]⟩
def vy:∀{ds:List PyData},(∀d∈ds,Ly n d)->PyData.canLayAll0 ds=true/\PyData.depthAll ds<=n
 | [],_=>by simp[PyData.canLayAll0,PyData.depthAll]
 |d::ds,h=>by have h1:=h d (.head _);have h2:=vy (ds:=ds) λx hx=>h x (.tail _ hx);rw[PyData.canLayAll0,PyData.depthAll];exact⟨by rw[h1.1,h2.1];rfl,Nat.max_le.mpr ⟨h1.2,h2.2⟩⟩
def p9 (h:∀d∈ds,Ly n d):Ly (n+1) (.list ds):=⟨by rw[PyData.canLay0];exact(vy h).1,by rw[PyData.depth];have:=(vy h).2;omega⟩
def gu (h:∀d∈ds,Ly n d):Ly (n+1) (.tuple ds):=⟨by rw[PyData.canLay0];exact(vy h).1,by rw[PyData.depth];have:=(vy h).2;omega⟩
def iq:∀d∈([]:List PyData),Ly n d:=λ_ h=>by cases h
def ck (h:Ly n d) (t:∀x∈ds,Ly n x):∀x∈d::ds,Ly n x:=λx hx=>by
 cases hx with
 |head=>exact h
 |tail _ hx=>exact t x hx
def kq (h:∀n∈ns,PyData.strOk n=true):∀d∈fE ns,Ly 0 d:=λd hd=>by obtain⟨n,hn,rfl⟩:=br.mp hd;exact nS (h n hn)
structure NY where
 W:Option (List Nat)
 t:Int
 b:Int
 o:Aab
 v:Str
 f:Option Nat
 s:Tld
def Py:Option (List Nat)->PyData
 |none=>.none
 |some W=>.list (W.map λ(n:Nat)=>.int n)
def fuD:Option Nat->PyData
 |none=>.none
 |some n=>.int n
def YX:Tld->PyData
 | .sg s t=>.tuple [.str "seating",.tuple (fE s),.int t]
 | .tr t s=>.tuple [.str "trim",.int t,.tuple (fE s)]
def JR (t b:Int) (o:Aab):PyData:=.tuple [.tuple [.int t,.int b],.list (fE o)]
def t5D (x:NY):PyData:=.list [Py x.W,JR x.t x.b x.o,.str x.v,fuD x.f,YX x.s]
def xu {H}:∀W:List Nat,Az H (W.map λ(n:Nat)=>.int n) (W.map iV)
 | []=>fm
 |n::W=>bI (fM _) (xu W)
def Tw {H}:∀{W:Option (List Nat)},Tn H v W->Ay H (Py W) v
 |none,h=>by cases h;exact D0
 |some W,h=>by obtain⟨p,rfl,e⟩:=h;exact jy e (xu W)
structure F4 (H:Hp) (l pb pq pl:aq) (vr vf vs:V) (x:NY):Prop where
 l:H l=some (.lst [vr,.ref pb,.str x.v,vf,vs])
 b:H pb=some (.tup [.ref pq,.ref pl])
 q:H pq=some (.tup [.int x.t,.int x.b])
 o:H pl=some (.lst (x.o.map V.str))
 r:Tn H vr x.W
 f:vf=JM x.f
 s:xl H vs x.s
def NZ {H}(h:xl H v r):Ay H (YX r) v:=by
 cases r with
 |sg s t=>obtain⟨a,b,rfl,h1,h2⟩:=h;exact fz h1 (bI (mx _) (bI (fz h2 (ip _)) (bI (fM _) fm)))
 |tr t s=>obtain⟨a,b,rfl,h1,h2⟩:=h;exact fz h1 (bI (mx _) (bI (fM _) (bI (fz h2 (ip _)) fm)))
def vz {H}(h1:H p=some (.tup [.ref q,.ref l])) (h2:H q=some (.tup [.int t,.int b])) (h3:H l=some (.lst (o.map V.str))):Ay H (JR t b o) (.ref p):=fz h1 (bI (fz h2 (bI (fM _) (bI (fM _) fm))) (bI (jy h3 (ip _)) fm))
def Tx {H}:∀r:Option Nat,Ay H (fuD r) (JM r)
 |none=>D0
 |some _=>fM _
def F4.Tz {H}{l pb pq pl:aq} (h:F4 H l pb pq pl vr vf vs x):Tl H (t5D x) (.ref l):=by have hf:=h.f;subst hf;exact(jy h.l (bI (Tw h.r) (bI (vz h.b h.q h.o) (bI (mx _) (bI (Tx _) (bI (NZ h.s) fm)))))).one
def F4.keep {H}{Pt l pb pq pl:aq} (h:F4 H l pb pq pl vr vf vs x) (t:Tab H Pt) (k:cX Pt H H'):F4 H' l pb pq pl vr vf vs x:=by
 have K:∀{y:aq} {o:HO},(∀ps,o≠.jT ps)->H y=some o->H' y=some o:=λn e=>k _ _ (Tab.ne t e n) e;refine⟨K (λ_ z=>nomatch z) h.l,K (λ_ z=>nomatch z) h.b,K (λ_ z=>nomatch z) h.q,K (λ_ z=>nomatch z) h.o,?_,h.f,h.s.up λb xs e=>K (λ_ z=>nomatch z) e⟩;have hr:=h.r;cases e:x.W with
 |none=>rw[e] at hr;exact hr
 |some W=>rw[e] at hr;obtain⟨p,e1,e2⟩:=hr;exact⟨p,e1,K (λ_ z=>nomatch z) e2⟩
def AR.uniq (h:AR ts ns x y o) (k:AR ts ns x' y' o'):x=x'/\y=y'/\o=o':=by obtain⟨n,rfl,rfl,b⟩:=h;obtain⟨m,rfl,rfl,c⟩:=k;obtain⟨rfl,rfl⟩:=b.uniq c;exact⟨rfl,rfl,rfl⟩
structure JS (rows:List jN) (ts:List Td) (ns:Aab) (x y:Str) (r:NY):Prop where
 W:r.W=U1 (ts.map du)
 o:AR ts ns r.t r.b r.o
 v:r.v=NN (ts.map du) x y
 f:r.f=fuF (ts.map du) [(x,y)] y x
 s:qX rows 0 r.s
def JS.uniq (h:JS rows ts ns x y a) (k:JS rows ts ns x y b):a=b:=by obtain⟨e1,e2,e3⟩:=h.o.uniq k.o;have e4:=h.W.trans k.W.symm;have e5:=h.v.trans k.v.symm;have e6:=h.f.trans k.f.symm;have e7:=AK h.s k.s;cases a;cases b;cases e1;cases e2;cases e3;cases e4;cases e5;cases e6;cases e7;rfl
def U4 (P:aQ) (w:bg) (K:Φ) (mg:Aae) (base:Heap) (k:Nat) (x:Str) (ps:Aab) (sp:Sp):Prop:=∃f fd,cG P w K mg base fK k f fd ps sp/\Binds K fd ps []/\(∃t,Binds K fd ps [.int 0 t])/\keepIn K (.ref f)=true/\mg x=some (.ref f)
def U4.df (D:U4 P w K mg base k x ps sp):Df P w K mg base k x ps sp:=by obtain⟨f,fd,F,b,_,kp,m⟩:=D;exact⟨f,fd,F,b,kp,m⟩
def TB (D:U4 X.prog X.w X.K X.mg X.base k x ps sp) (hr:eS k X.A) (ha:PA X (e::es) t) (hg:Gl X x:=by rfl) (s_:(x==("__debug__":Str))=false:=by decide) (he:starEach (e::es) X.env=(false,eval e X.env)::starEach es X.env:=by rfl) (sC:(backTo pos (starEach es X.env)).any (·.1)=false:=by rfl):PE X (.Call (.Name x p) (e::es) [] pos) (CZ sp [.int 0] E0 t):=by obtain⟨f,fd,F,_,⟨tk,b⟩,kp,m⟩:=D;exact C0 F hr hg m kp b (.cons ⟨tk,rfl⟩ .nil) wH ha s_ he sC
abbrev sAl:Stmt:=top 74
structure Lw (H:Hp) (a b n Pt:aq) (us Kw:Aac) (rows:List jN) (ts:List Td) (x y:Str) (zs:Aab):Prop where
 a:H a=some (.lst us)
 pa:Paired (gZ H) us rows
 b:H b=some (.lst Kw)
 pb:r_ H Kw ts
 n:H n=some (.lst ((x::y::zs).map V.str))
 nm:eO rows=x::y::zs
 rb:Rb rows
 l15:ts.length<=15
 YY:∀t∈ts,A2 t.2.2
 tb:Tab H Pt
inductive N0 (Pt:aq) (H:Hp) (Q:VK):Aac->Prop
 |mk {a b n:aq} {us Kw:Aac} {rows:List jN} {ts:List Td} {x y:Str} {zs:Aab} (h:Lw H a b n Pt us Kw rows ts x y zs) (q:∀l pb pq pl vr vf vs r H',cX Pt H H'->Tab H' Pt->H l=none->H pb=none->H pl=none->F4 H' l pb pq pl vr vf vs r->JS rows ts (x::y::zs) x y r->Q (.ref l) H'):N0 Pt H Q [.ref a,.ref b,.ref n]
def YZ (Pt:aq):Sp:=λvs H Q _=>N0 Pt H Q vs
def Y0 (F:gX K "_law_all_told" "_law_all_told" sAl f fd) (DR:Df P w K mg base 4 "ring" ["trials"] Po) (DB:Df P w K mg base 3 "best_order" ["trials","names"] BoC) (DV:Df P w K mg base 4 "verdict" ["trials","one","other"] YI) (DF:Df P w K mg base 5 "further" ["trials","pairs","one","other"] FuC) (DS:U4 P w K mg base 4 "seated" ["rowers","rig","most"] (SeC Pt)):cG P w K mg base fK 6 f fd ["rowers","trials","names"] (YZ Pt):=by
 have sc:bx ["rowers","trials","names","found"] ["rowers","trials","names"] (aP sAl):={};exists sc;have Gm:=hr.mono (j:=4) δ;have TC:=hr.mono (j:=3) δ;refine⟨_,az (iQ (i:=3) sc.nd (oU (ae (pD DR Gm (ae (pC 1) aj)) (ae (pD DB TC (ae (pC 1) (ae (pC 2) aj))) (ae (pD DV Gm (ae (pC 1) (ae (bW kl (pC 2) aH) (ae (bW kl (pC 2) aH) aj)))) aj))))) (aO (bK (bQ Dx (pC 3) (oU (ae (pD DF hr (ae (pC 1) (ae (oU (ae (jx (ae (bW kl (pC 2) aH) (ae (bW kl (pC 2) aH) aj))) aj)) (ae (bW kl (pC 2) aH) (ae (bW kl (pC 2) aH) aj))))) (ae (TB DS Gm (ae (pC 0) (ae (jx (ae f_ (ae f_ aj))) aj))) aj)))))),?_⟩;cases h with
 | @mk a b n us Kw rows ts x y zs h q=>
  have nd:(x::y::zs).Nodup:=by rw[<-h.nm];exact h.rb.up.nodup
  have so:∀z∈x::y::zs,PyData.strOk z=true:=λz hz=>by rw[<-h.nm] at hz;exact h.rb.so z hz
  have ln:(x::y::zs).length<=6:=by rw[<-h.nm];rw[ot];exact h.rb.l6
  have l15:=h.l15;refine JJ.mk h.b h.pb ω λv1 M1 s1 f1=>BoI.mk (s1 _ _ h.b) (h.pb.mono s1.vd) l15 h.YY (s1 _ _ h.n) ς ω nd so λp z l t b o M2 s2 n1 n2 h1 h2 h3 bo=>?_;have oX:=s1.trans s2;refine rW.mk (oX _ _ h.n) (a_ (j:=0) rfl) (rW.mk (oX _ _ h.n) (a_ (j:=1) rfl) (Tc.mk (oX _ _ h.b) (h.pb.mono oX.vd) ω λM3 s3=>cU.mk rfl λfo M4 s4 w4 n4=>?_));have O2:=(oX.trans s3).trans s4;refine rW.mk (O2 _ _ h.n) (a_ (j:=0) rfl) (rW.mk (O2 _ _ h.n) (a_ (j:=1) rfl) (cU.mk rfl λt5 M5 s5 w5 _=>cU.mk rfl λt6 M6 s6 w6 _=>?_));have Ko:=(O2.trans s5).trans s6;refine rW.mk (Ko _ _ h.n) (a_ (j:=1) rfl) (rW.mk (Ko _ _ h.n) (a_ (j:=0) rfl) (U3.mk (ps:=[(x,y)]) (Ko _ _ h.b) (h.pb.mono Ko.vd) ω w6 (.cons ⟨t5,rfl,s6 _ _ w5⟩ .nil) ς λM7 s7=>cU.mk rfl λg M8 s8 w8 _=>?_));have U5:=(Ko.trans s7).trans s8;refine SeI.mk (sU:=["port","starboard"]) (rows:=rows) ⟨⟨us,U5 _ _ h.a,acM h.pa λ_ _ e=>e.up λ_ _ e=>U5 _ _ e⟩,h.rb,w8,rfl⟩ (h.tb.same U5) λsr vs M9 k9 t9 hs9 at9=>cU.mk rfl λl2 M10 jW wK n10=>?_;have tb8:=h.tb.same U5;have s48:=((s5.trans s6).trans s7).trans s8;have K9:∀{y:aq} {o:HO},(∀ps,o≠.jT ps)->M4 y=some o->M10 y=some o:=λno e=>jW _ _ (k9 _ _ (Tab.ne tb8 (s48 _ _ e) no) (s48 _ _ e));refine mS.l (K9 (λ_ z=>nomatch z) w4) wK ς λL M11 De V7 n11=>?_;have K4:cX Pt M4 M11:=(s48.keep.trans k9).trans (jW.trans De).keep;have nL:H L=none:=by
   cases e:H L with
   |none=>rfl
   |some o=>
    by_cases z:L=Pt
    .obtain⟨ps,e2⟩:=t9.ps;rw[z,jW _ _ e2] at n11;cases n11
    .rw[(jW _ _ (k9 _ _ z (U5 _ _ e)))] at n11;cases n11
  refine q L p z l v1 (JM (fuF (ts.map du) [(x,y)] y x)) vs ⟨U1 (ts.map du),t,b,o,_,_,sr⟩ M11 (U5.keep.trans (k9.trans (jW.trans De).keep)) (t9.same (jW.trans De)) nL (gq s1 n1) (gq s1 n2) ?_ ⟨rfl,bo,rfl,rfl,hs9⟩;have TF:=s3.trans s4;have Nv:=h.tb.same O2;have K:∀{y:aq} {o:HO},(∀ps,o≠.jT ps)->M2 y=some o->M11 y=some o:=λno e=>K4 _ _ (Tab.ne Nv (TF _ _ e) no) (TF _ _ e);refine⟨V7,K (λ_ z=>nomatch z) h1,K (λ_ z=>nomatch z) h2,K (λ_ z=>nomatch z) h3,?_,rfl,at9.up λb xs e=>(jW.trans De) _ _ e⟩;dsimp only;generalize U1 (ts.map du)=W at f1⊢;cases W with
  |none=>exact f1
  |some W=>obtain⟨p,e1,e2⟩:=f1;exact⟨p,e1,K (λ_ z=>nomatch z) (s2 _ _ e2)⟩
structure Wo (C:aq) (Z:aq->Prop) (H M:Hp) (cb sl ll:aq) (fV:List Cs) (S:Cs):Prop where
 cl:fj C M cb sl ll (fV++ [S]) []
 s:∀y o,Z y->H y=some o->M y=some o
 n1:H cb=none
 n2:H sl=none
 n3:H ll=none
def Wo.Ct {H}{cb sl ll mI:aq} (w:Wo C Z H M cb sl ll fV S) (hz:∀y,M y=none->Z y) (k':Kp3 cb sl ll M M') (f:M mI=none) (cl:fj C M' cb sl mI (fV++ [S]++ [S']) []):Wo C Z H M' cb sl mI (fV++ [S]) S':=⟨cl,λy o h e=>k' _ _ (λz=>by rw[z,w.n1] at e;cases e) (λz=>by rw[z,w.n2] at e;cases e) (λz=>by rw[z,w.n3] at e;cases e) (w.s _ _ h e),w.n1,w.n2,by
  cases e:H mI with
  |none=>rfl
  |some o=>rw[w.s _ _ (hz _ f) e] at f;cases f⟩
def Wo.same {H}{cb sl ll:aq} (w:Wo C Z H M cb sl ll fV S) (s:bc M M'):Wo C Z H M' cb sl ll fV S:=⟨w.cl.same s,λy o z e=>s _ _ (w.s _ _ z e),w.n1,w.n2,w.n3⟩
def fj.st {H}{Z:aq->Prop}{cb sl ll:aq}(h:fj C H cb sl ll fV oq) (s:∀y o,Z y->H y=some o->M y=some o) (t:Tk H M) (z1:Z cb) (z2:Z sl) (z3:Z ll):fj C M cb sl ll fV oq:=by obtain⟨dx,vs,ws,c1,c2,c3,c4,c5,c6,c7,c8⟩:=h;exact⟨dx,vs,ws,s _ _ z1 c1,c2,c3,c4,s _ _ z2 c5,s _ _ z3 c6,acM c7 λ_ _ z=>z.up t,acM c8 λ_ _ z=>z.up t⟩
def Paired.rev {α β:Type}{F:α->β->Prop}:∀{a:List α}{b:List β},Paired F a b->Paired F a.reverse b.reverse
 |_,_,.nil=>.nil
 |_,_,.cons h t=>by rw[kC,kC];exact iI (Paired.rev t) h
def N_ (nd:(eO l).Nodup) (er:l[i]?=some r) (z:r.1∈eO (l.take i)):False:=by
 have hi:=(aF.mp er).1;have e0:l=l.take i++r::l.drop (i+1):=by rw[show r=l[i] from bf (er.symm.trans (ag hi)),<-fu hi,fw]
 unfold eO at nd z;rw[e0,bC,fg] at nd;exact nd.2.2 _ z _ (dr (bT)) rfl
def wm (p:l.Perm l'):km l=km l':=vm ((js l).trans p) (jX l)
structure Kin (C:aq) (H:Hp) (a b:aq) (S S':Cs):Prop where
 a:∃sl ll fV oq,fj C H a sl ll (fV++ [S]) oq
 b:∃sl ll fV oq,fj C H b sl ll (fV++ [S']) oq
 oa:AB S
 ob:AB S'
inductive NeI (C:aq) (f:Bool->Bool) (H:Hp) (Q:VK):V->V->Prop
 |mk {a b:aq} {S S':Cs} (k:Kin C H a b S S') (q:∀M,bc H M->Q (.bl (f (decide (S.cC=S'.cC/\S.rows=S'.rows)))) M):NeI C f H Q (.ref a) (.ref b)
def ab3 (C:aq) (f:Bool->Bool):R2:=λx y H Q=>NeI C f H Q x y
def AU (h:ko S):AB S:=by
 refine⟨λr hr=>?_,h.pc,λx hx=>?_,aB h.l6 δ,aB h.r6 δ⟩
 .have g:=h.rw r hr;exact⟨g.n,by rw[g.s];exact uh.1,by have:=g.w1;have:=g.w6;omega⟩
 .have:x.1∈S.rows.map (·.1):=dr hx;rw[h.num,ou] at this;have:=h.r6;omega
def TH (h:ko S) (k:Int):AB ⟨S.cC,MN S.rows k,S.n⟩:=by have g:=AU h;exact⟨g.cC,λx hx=>g.rows x (gA.mp hx).1,λx hx=>g.num x (gA.mp hx).1,g.lc,aB (iD _ _) g.lr⟩
def Ej (h:ko S):MO S.rows 0=true/\MN S.rows 0≠S.rows:=by
 obtain⟨x,hx,e⟩:∃x,x∈S.rows/\x.1=0:=by
  have:(0:Nat)∈S.rows.map (·.1):=by rw[h.num,ou];have:=h.r1;omega
  exact br.mp this
 refine⟨List.any_eq_true.mpr ⟨x,hx,aZ (by rw[e];rfl)⟩,λz=>?_⟩;rw[<-z] at hx;have:=(gA.mp hx).2;rw[aZ (by rw[e];rfl)] at this;cases this
inductive IsI (K:Φ) (H:Hp) (Q:VK):Aac->Prop
 |mk {a C D dx:aq} {fs:List (Str×V)} {b:Bool} (h:H a=some (.ins C dx fs)) (F:Sk K C) (e:kitOne K (.ref C) (.ref D)=some b) (q:Q (.bl b) H):IsI K H Q [.ref a,.ref D]
def rIs (K:Φ):Aac->Hp->VK->Prop:=λvs H Q=>IsI K H Q vs
def cIs:dR X (.builtin "isinstance") (rIs X.K):=Cq.wk λx H Q q=>by obtain⟨h,F,e,q⟩:=q;exact⟨_,_,_,_,_,_,rfl,h,F,e,q⟩
inductive TJ (C:aq) (H:Hp) (Q:VK):Aac->Prop
 |mk {a b:aq} {S S':Cs} (k:Kin C H a b S S') (q:∀M,bc H M->Q (.bl (decide (S.cC=S'.cC/\S.rows=S'.rows))) M):TJ C H Q [.ref a,.ref b]
def EqC (C:aq):Sp:=λvs H Q _=>TJ C H Q vs
def TL (F:gX K "__eq__" "Club.__eq__" sEq f fd) (T:Txt mg) (mC:mg "Club"=some (.ref C)) (IK:Sk K C) (ki:kitOne K (.ref C) (.ref C)=some true) (DR:vE P w K mg base 1 C "rowers" ["self"] (xj C)) (DP:vE P w K mg base 1 C "pieces" ["self"] (Cr C)):cG P w K mg base fK 2 f fd ["self","other"] (EqC C):=by
 exists abt;refine⟨_,aO (bK (xh (bj cIs rfl T.Rv dY (ae (pC 1) (ae (l_ (v:=.ref C) rfl mC rfl) aj))) (xh (jt (oEq hr.units) (yD DR hr (pC 0)) (yD DR hr (pC 1)) (cO _)) (ma (jt (oEq hr.units) (yD DP hr (pC 0)) (yD DP hr (pC 1)) (cO _)))))),?_⟩;obtain @⟨a,b,S,S',⟨⟨sl,ll,fV,oq,c⟩,⟨Vm,mI,oY,ab4,c'⟩,o1,o2⟩,q⟩:=h;obtain⟨_,_,_,dx,fs,_,_,_,L⟩:=c.lst;obtain⟨_,_,_,WH,Vl,_,_,_,L'⟩:=c'.lst;refine IsI.mk L'.i IK ki (jr.mk L.i (L.m _ δ δ) (kJ.mk c λl1 us1 M1 s1 w1 _ p1=>jr.mk (s1 _ _ L'.i) (L'.m _ δ δ) (kJ.mk (c'.same s1) λl2 SV M2 s2 w2 _ p2=>?_)));have oX:=s1.trans s2;refine Km.mk (jy (s2 _ _ w1) (iA yC (acM p1 λ_ _ z=>z.up s2.vd))).one (jy w2 (iA yC p2)).one o1.XD o2.XD ?_;rw[AA Sg];by_cases e:S.cC=S'.cC
 .rw[aZ e];refine jr.mk (oX _ _ L.i) (L.m _ δ δ) (kJ.mk (c.same oX) λl3 us3 M3 s3 w3 _ p3=>jr.mk ((oX.trans s3) _ _ L'.i) (L'.m _ δ δ) (kJ.mk (c'.same (oX.trans s3)) λl4 us4 M4 s4 w4 _ p4=>?_));refine Km.mk (jy (s4 _ _ w3) (iA Cp (acM p3 λ_ _ z=>z.up s4.vd))).one (jy w4 (iA Cp p4)).one o1.layR o2.layR ?_;rw[AA Si];have:=q M4 (oX.trans (s3.trans s4));rw[show decide (S.cC=S'.cC/\S.rows=S'.rows)=decide (S.rows=S'.rows) by simp[e]] at this;exact this
 .rw[bw e];have:=q M2 oX;rw[bw λz=>e z.1] at this;exact this
def TM (P:aQ) (w:bg) (K:Φ) (mg:Aae) (base:Heap) (C:aq):Prop:=∃f fd,cG P w K mg base fK 2 f fd ["self","other"] (EqC C)/\Binds K fd ["self","other"] []/\Bs K C "__eq__" f/\findIn K (.ref C) "__ne__"=some (some (.builtin "object.__ne__"))/\mroIn K C (.type "object")=some true
def Y1 (D:TM X.prog X.w X.K X.mg X.base C) (hr:eS 3 X.A):gT X (compareOp .NotEq) (ab3 C not):=by obtain⟨f,fd,F,b,m,h1,h2⟩:=D;refine(Ro F hr b m h1 h2).wk λx y H Q q=>?_;obtain⟨k,q⟩:=q;obtain⟨sl,ll,fV,oq,c⟩:=k.a;obtain⟨Vm,mI,oY,ab4,c'⟩:=k.b;obtain⟨dx,_,_,e,_⟩:=c;obtain⟨WH,_,_,e',_⟩:=c';exact⟨_,_,dx,_,WH,_,rfl,rfl,e,e',TJ.mk k λH' s=>⟨_,rfl,q H' s⟩⟩
abbrev sOr:Stmt:=top 75
structure sf (H:Hp) (kp r0 p0 t0:aq) (S:Cs):Prop where
 k:H kp=some (.tup [.ref r0,.ref p0,.ref t0])
 r:∃us,H r0=some (.lst us)/\Paired (gZ H) us S.cC
 p:∃us,H p0=some (.lst us)/\Paired (vh H) us S.rows
 t:∃us,H t0=some (.lst us)/\Paired (nK H) us (Ax S.rows)
noncomputable def kpD (S:Cs):PyData:=.tuple [.list (S.cC.map IM),.list (S.rows.map O6),.list ((Ax S.rows).map r3D)]
def sf.Tz {H}(h:sf H kp r0 p0 t0 S):Tl H (kpD S) (.ref kp):=by obtain⟨k,⟨us,h1,p1⟩,⟨vs,h2,p2⟩,⟨ws,h3,p3⟩⟩:=h;exact(fz k (bI (jy h1 (iA yC p1)) (bI (jy h2 (iA Cp p2)) (bI (jy h3 (iA Sf p3)) fm)))).one
def sf.same {H}(h:sf H kp r0 p0 t0 S) (s:bc H H'):sf H' kp r0 p0 t0 S:=by obtain⟨k,⟨us,h1,p1⟩,⟨vs,h2,p2⟩,⟨ws,h3,p3⟩⟩:=h;exact⟨s _ _ k,⟨us,s _ _ h1,acM p1 λ_ _ z=>z.up s.vd⟩,⟨vs,s _ _ h2,acM p2 λ_ _ z=>z.up s.vd⟩,⟨ws,s _ _ h3,r9 s.vd p3⟩⟩
def Y2 (h:Nb r):Ly 1 (IM r):=gu (ck (nS h.n.2.1) (ck (nS (by rw[h.s];exact uh.1.2.1)) (ck (gJ _) iq)))
def Y3 (o:gW p):Ly 2 (MJ p):=gu (ck (gu (kq λn hn=>(o.a.ok n hn).2.1)) (ck (gu (kq λn hn=>(o.b.ok n hn).2.1)) (ck ((gJ _).mono δ) (ck ((gJ _).mono δ) (ck ((gJ _).mono δ) iq)))))
def Y4 (h:FE r):Ly 2 (trD r):=gu (ck ((nS h.1.2.1).mono δ) (ck ((nS h.2.1.2.1).mono δ) (ck (gu (ck (gJ _) (ck (gJ _) iq))) iq)))
def sh (h:ko S):Lay (kpD S):=by
 refine Ly.lay (n:=5) (gu (ck ?_ (ck ?_ (ck ?_ iq)))) δ
 .refine(p9 (n:=1) λd hd=>?_).mono δ;obtain⟨r,hr,rfl⟩:=br.mp hd;exact Y2 (h.rw r hr)
 .refine(p9 (n:=3) λd hd=>?_).mono δ;obtain⟨x,hx,rfl⟩:=br.mp hd;exact gu (ck ((gJ _).mono δ) (ck (Y3 (h.pc x hx).1) iq))
 .refine(p9 (n:=3) λd hd=>?_).mono δ;obtain⟨x,hx,rfl⟩:=br.mp hd;exact gu (ck ((gJ _).mono δ) (ck ((gJ _).mono δ) (ck (Y4 (IS (λy hy=>(h.pc y hy).1) (AU h).num hx).2.2) iq)))
def TN (a b:aq) (y:aq):Prop:=y≠a/\y≠b
def sf.st {H}{Z:aq->Prop} (h:sf H kp r0 p0 t0 S) (s:∀y o,Z y->H y=some o->M y=some o) (t:Tk H M) (z1:Z r0) (z2:Z p0) (z3:Z t0):sf M kp r0 p0 t0 S:=by obtain⟨k,⟨us,h1,p1⟩,⟨vs,h2,p2⟩,⟨ws,h3,p3⟩⟩:=h;exact⟨t _ _ k,⟨us,s _ _ z1 h1,acM p1 λ_ _ z=>z.up t⟩,⟨vs,s _ _ z2 h2,acM p2 λ_ _ z=>z.up t⟩,⟨ws,s _ _ z3 h3,r9 t p3⟩⟩
def TQ (C:aq) (i:Nat):TE:=u_ (dF (va C "rowers" (xj C) E0 (vC i) gk) (dF (va C "pieces" (Cr C) E0 (vC i) gk) (dF (va C "trials" (Nd C) E0 (vC i) gk) gk)))
def yO {U}{H}{cb sl ll:aq} (hg:gv U i=some (.ref cb)) (c:fj C H cb sl ll (fV++ [S]) oq) (ok:∀x∈S.rows,gW x.2/\jd x.2) (l:S.rows.length<=31) (q:∀t r p u M,bc H M->H r=none->H p=none->H u=none->sf M t r p u S->Q (.ref t) M):TQ C i U H Q:=by obtain⟨_,_,_,dx,fs,_,_,_,L⟩:=c.lst;show vC i U H λx H1=>jr C "rowers" x H1 _;refine xq hg ?_;refine jr.mk L.i (L.m _ δ δ) (kJ.mk c λr us M1 s1 w1 n1 p1=>?_);show vC i U M1 λx H1=>jr C "pieces" x H1 _;refine xq hg ?_;refine jr.mk (s1 _ _ L.i) (L.m _ δ δ) (kJ.mk (c.same s1) λp vs M2 s2 w2 n2 p2=>?_);have oW:=s1.trans s2;show vC i U M2 λx H1=>jr C "trials" x H1 _;refine xq hg ?_;refine jr.mk (oW _ _ L.i) (L.m _ δ δ) (Nc.mk (c.same oW) ok l λu ws M3 s3 w3 n3 p3=>cU.mk rfl λt M4 s4 w4 _=>?_);have U6:=s3.trans s4;have TF:=s2.trans U6;exact q t r p u M4 (oW.trans U6) n1 (gq s1 n2) (gq oW n3) ⟨w4,⟨us,TF _ _ w1,acM p1 λ_ _ z=>z.up TF.vd⟩,⟨vs,U6 _ _ w2,acM p2 λ_ _ z=>z.up U6.vd⟩,⟨ws,s4 _ _ w3,r9 s4.vd p3⟩⟩
inductive acN (C:aq) (H:Hp) (Q:VK):Aac->Prop
 |mk {cb sl ll a b kp r0 p0 t0:aq} {us ps:Aac} {S:Cs} {fV:List Cs} (c:fj C H cb sl ll (fV++ [S]) []) (ok:ko S) (ha:H a=some (.lst us)) (pa:Paired (gZ H) us S.cC) (hb:H b=some (.lst ps)) (pb:Paired (vh H) ps S.rows) (k:sf H kp r0 p0 t0 S) (z:∀y∈[cb,sl,ll,r0,p0,t0],TN a b y) (q:∀M,(∀y o,TN a b y->H y=some o->M y=some o)->Q (.bl true) M):acN C H Q [.ref cb,.ref a,.ref b,.ref kp]
def OrC (C:aq):Sp:=λvs H Q _=>acN C H Q vs
def Y5 (F:gX K "_law_other_right" "_law_other_right" sOr f fd) (T:Txt mg) (DK:DfC P w K mg base C) (DQ:TM P w K mg base C) (DO:vE P w K mg base 4 C "come" ["self","rower"] (Ja C)) (DT:vE P w K mg base 4 C "tell" ["self","piece"] (IZ C)) (DR:vE P w K mg base 1 C "rowers" ["self"] (xj C)) (DS:vE P w K mg base 1 C "pieces" ["self"] (Cr C)) (DU:vE P w K mg base 5 C "trials" ["self"] (Nd C)) (DX:vE P w K mg base 2 C "strike" ["self","number"] (XQ C)):cG P w K mg base fK 6 f fd ["club","rowers","pieces","kept"] (OrC C):=by
 have sc:bx ["club","rowers","pieces","kept","other","rower","number","piece","some"] ["club","rowers","pieces","kept"] (aP sOr):={};exists sc;have Gm:=hr.mono (j:=4) δ;have TC:=hr.mono (j:=3) δ;have AG:=hr.mono (j:=2) δ;have vo:=hr.mono (j:=1) δ;refine⟨_,az (iQ (i:=4) sc.nd (O_ DK AG)) (az (gy bz rfl (om K (Xf 1 (pC 1) (sv Ao aH))) (aM (i:=5) sc.nd) (aO (eR (pM DO Gm (pC 4) (ae (pC 5) aj))))) (az (gy bz rfl (om K (pC 2)) (rY 2 (gY (aM (i:=6) sc.nd) (gY (aM (i:=7) sc.nd) rX))) (aO (gI (fG oN (pM DT Gm (pC 4) (ae (pC 7) aj)) (pC 6) (cO _)) dJ cj))) (az (gy bz rfl (Cj K (jx (ae (pC 1) (ae (pC 2) aj)))) (aM (i:=8) sc.nd) (az (eR (pV cI cJ pf (pC 8) (ae jK aj))) (aO (eR (pV kX kY RL (pC 8) (ae aH aj)))))) (az (gI (PW.pt (Fz (fG (Y1 DQ TC) (pC 4) (pC 0) (cO _)) (pK (fG (Z4 hr.units) (jx (ae (yD DR vo (pC 4)) (ae (yD DS vo (pC 4)) (ae (yD DU hr (pC 4)) aj)))) (pC 3) (cO _))))) dJ cj) (az (eR (pM DX AG (pC 4) (ae aH aj))) (aO (bK (xh (jt (Y1 DQ TC) (pC 4) (pC 0) (cO _)) (ma (jt (oEq hr.units) (pC 3) (jx (ae (yD DR vo (pC 0)) (ae (yD DS vo (pC 0)) (ae (yD DU hr (pC 0)) aj)))) (cO _))))))))))),?_⟩;cases h with
 | @mk cb sl ll a b kp r0 p0 t0 us ps S fV c ok ha pa hb pb k na q=>
  refine MkI.mk λob os ol M1 s1 n1 n2 n3 c1=>MB.mk (s1 _ _ ha) λp M2 s2 h2 np=>mZ.mk h2 ?_;have npp:H p=none:=gq s1 np;obtain⟨B,eB⟩:∃B,upd H p (.lst us.reverse)=B:=⟨_,rfl⟩;have sB:bc H B:=eB▸bZ npp _;have pB:B p=some (.lst us.reverse):=eB▸ba;have w2:∀y o,True->B y=some o->M2 y=some o:=λy o _ e=>by
   rw[<-eB] at e;by_cases z:y=p
   .rw[z,ba] at e;rw[z,h2];exact e
   .rw[bN z] at e;exact s2 _ _ (s1 _ _ e)
  have nn:∀{y},H y=none->M1 y≠none->B y=none:=λe f=>by rw[<-eB,bN (λz=>f (by rw[z];exact np))];exact e
  obtain⟨_,_,_,q1,_,_,_,q5,q6,_⟩:=id c1;have W2:Wo C (λ_=>True) B M2 ob os ol [] ⟨[],[],0⟩:=⟨c1.same s2,w2,nn n1 (by rw[q1];exact λz=>nomatch z),nn n2 (by rw[q5];exact λz=>nomatch z),nn n3 (by rw[q6];exact λz=>nomatch z)⟩;have pr:=Paired.rev pa;clear w2 eB;refine lN (λi U M=>(∃v,U=[some (.ref cb),some (.ref a),some (.ref b),some (.ref kp),some (.ref ob),v,none,none,none])/\∃mI oY cC,Wo C (λ_=>True) B M ob os mI oY ⟨cC,[],0⟩/\oY.length=i/\cC.Perm (S.cC.reverse.take i)/\km cC=cC) ⟨⟨_,rfl⟩,ol,[],[],W2,rfl,.nil,(js []).eq_nil⟩ (λi U M ⟨_,_,_,_,W,_⟩=>W.s _ _ trivial pB) ?_ ?_
  .rintro i x U M D' hx ⟨⟨v,rfl⟩,mI,oY,cC,W,ls,pm,so⟩ ⟨nx,_⟩;obtain⟨r,er,ra,rfl,hra⟩:=je pr i x hx;have hi:=(aF.mp er).1;rw[xB] at hi;have l6:=ok.l6;obtain⟨_,_,_,dx,fs,_,_,_,L⟩:=W.cl.lst;have lp:=pm.length_eq;rw[b_] at lp;refine jr.mk L.i (L.m _ δ δ) (D4.mk W.cl ω (W.s _ _ trivial (sB _ _ hra)) (ok.rw r (List.mem_reverse.mp (aY er))) (λz=>?_) (by show cC.length<=7;omega) λNg M' k' f' c'=>nx _ _ ⟨⟨_,rfl⟩,Ng,_,_,W.Ct (λ_ _=>trivial) k' f' c',by rw[aA,ls];rfl,?_,sR _⟩)
   .refine N_ ?_ er ((pm.map _).mem_iff.mp z);unfold eO;rw[List.map_reverse];exact(List.reverse_perm _).nodup_iff.mpr ok.nd
   .rw[bM,er];exact(js _).trans (pm.append_right _)
  rintro U M ⟨⟨v,rfl⟩,ll1,ab5,cC,W,ls,pm,so⟩;rw[ee pr,bX] at pm;have ec:cC=S.cC:=by rw[<-so,wm (pm.trans (List.reverse_perm _)),ok.so]
  subst ec;rw[ee pr,xB] at ls;have l6:=ok.l6;have r6:=ok.r6;have lb:=ee pb;refine mZ.mk (W.s _ _ trivial (sB _ _ hb)) (lN (λi U M=>(∃v v6 v7,U=[some (.ref cb),some (.ref a),some (.ref b),some (.ref kp),some (.ref ob),v,v6,v7,none])/\∃mI oY,Wo C (λ_=>True) B M ob os mI oY ⟨S.cC,S.rows.take i,i⟩/\oY.length<=6+i) ⟨⟨_,_,_,rfl⟩,ll1,ab5,W,ω⟩ (λi U M ⟨_,_,_,W,_⟩=>W.s _ _ trivial (sB _ _ hb)) ?_ ?_)
  .rintro i x U M D' hx ⟨⟨v,v6,v7,rfl⟩,mI,oY,W,ls'⟩ ⟨nx,_⟩;obtain⟨y,ey,u,r,rfl,hu,hP⟩:=je pb i _ hx;have hi:=(aF.mp ey).1;have yn:y.1=i:=by have:=dA (λl=>l[i]?) ok.num;rw[aR,ey,mW hi] at this;exact bf this
   have oy:=ok.pc y (aY ey);obtain⟨_,_,_,dx,fs,_,_,_,L⟩:=W.cl.lst;refine pT.mk (W.s _ _ trivial (sB _ _ hu)) rfl (jr.mk L.i (L.m _ δ δ) (AE.mk W.cl ω (by show(S.rows.take i).length<=39;rw[b_];omega) (hP.up λb xs e=>W.s _ _ trivial (sB _ _ e)) oy.1 oy.2 λNg M' k' f' c'=>?_));show Ci _ _ (!decide ((i:Int)=(y.1:Int)));rw[aZ (dA Nat.cast yn.symm)];have W':Wo C (λ_=>True) B M' ob os Ng (oY++ [⟨S.cC,S.rows.take i,i⟩]) ⟨S.cC,S.rows.take (i+1),i+1⟩:=by rw[bM,ey,show y=(i,y.2) from vH yn rfl];exact W.Ct (λ_ _=>trivial) k' f' c'
   exact nx _ _ ⟨⟨_,_,_,rfl⟩,Ng,_,W',by rw[aA,aE];omega⟩
  rintro U M ⟨⟨v,v6,v7,rfl⟩,Ng,Y6,W,ls2⟩;rw[lb,bX,<-ok.n] at W;refine cU.mk rfl λtp M2 s2 w2 _=>An.mk w2 ?_;have P:∀l,(l=a\/l=b)->∃xs,M2 l=some (.lst xs)/\xs≠[]/\xs.length<=100:=by
   have l3:=ok.l3;have r1:=ok.r1;have la:=ee pa;rintro l (rfl|rfl)
   .exact⟨us,s2 _ _ (W.s _ _ trivial (sB _ _ ha)),λz=>by rw[z] at la;simp at la;omega,ω⟩
   .exact⟨ps,s2 _ _ (W.s _ _ trivial (sB _ _ hb)),λz=>by rw[z] at lb;simp at lb;omega,ω⟩
  refine Ap (λi U M=>(∃v v6 v7 v8,U=[some (.ref cb),some (.ref a),some (.ref b),some (.ref kp),some (.ref ob),v,v6,v7,v8])/\(∀y o,TN a b y->M2 y=some o->M y=some o)/\∀l,(l=a\/l=b)->∃xs,M l=some (.lst xs)/\xs≠[]/\xs.length<=100) ⟨⟨_,_,_,_,rfl⟩,λ_ _ _ e=>e,P⟩ (λi U M h=>h.2.1 _ _ ⟨λz=>?_,λz=>?_⟩ w2) ?_ ?_
  .obtain⟨_,e,_⟩:=P tp (.inl z);rw[w2] at e;cases e
  .obtain⟨_,e,_⟩:=P tp (.inr z);rw[w2] at e;cases e
  .rintro i x U M D' hx ⟨⟨v,v6,v7,v8,rfl⟩,kp,P⟩ ⟨nx,_⟩;have hl:∃l,x=.ref l/\(l=a\/l=b):=by
    match i,hx with
    |0,hx=>exact⟨a,(bf hx).symm,.inl rfl⟩
    |1,hx=>exact⟨b,(bf hx).symm,.inr rfl⟩
    |n+2,hx=>exact nomatch (show none=some x from hx)
   obtain⟨l,rfl,hl⟩:=hl;obtain⟨xs,e,ne,ll⟩:=P l hl;obtain _|⟨y,xs⟩:=xs
   .exact absurd rfl ne
   refine⟨IsL.mk e,tF.mk e ω λM3 k3 w3=>⟨IsL.mk w3,RK.mk w3 λM4 k4 w4=>nx _ _ ⟨⟨_,_,_,_,rfl⟩,λy o z e=>k4 _ _ ?_ (k3 _ _ ?_ (kp _ _ z e)),λl' hl'=>?_⟩⟩⟩
   .rcases hl with rfl|rfl
    .exact z.1
    .exact z.2
   .rcases hl with rfl|rfl
    .exact z.1
    .exact z.2
   .by_cases z:l'=l
    .rw[z];exact⟨_,w4,ς,by show(xs++ [V.e_]).length<=100;rw[aA,aE];simp only[bE] at ll;omega⟩
    .obtain⟨zs,e,h⟩:=P l' hl';exact⟨zs,k4 _ _ z (k3 _ _ z e),h⟩
  rintro U M3 ⟨⟨v,v6,v7,v8,rfl⟩,kz,P3⟩;have a2:M2 a=some (.lst us):=s2 _ _ (W.s _ _ trivial (sB _ _ ha));have b2:M2 b=some (.lst ps):=s2 _ _ (W.s _ _ trivial (sB _ _ hb));have zB:∀{y},B y=none->TN a b y:=λe=>⟨λz=>by(rw[z,sB _ _ ha] at e;cases e),λz=>by(rw[z,sB _ _ hb] at e;cases e)⟩;have tB:∀{M},(∀y o,TN a b y->B y=some o->M y=some o)->Tk B M:=λs y xs e=>s _ _ ⟨λz=>by(rw[z,sB _ _ ha] at e;cases e),λz=>by(rw[z,sB _ _ hb] at e;cases e)⟩ e;have tM:Tk M2 M3:=λy xs e=>kz _ _ ⟨λz=>by(rw[z,a2] at e;cases e),λz=>by(rw[z,b2] at e;cases e)⟩ e;have W3:Wo C (TN a b) B M3 ob os Ng Y6 S:=⟨(W.cl.same s2).st kz tM (zB W.n1) (zB W.n2) (zB W.n3),λy o z e=>kz _ _ z (s2 _ _ (W.s _ _ trivial e)),W.n1,W.n2,W.n3⟩;have cM:∀{M},(∀y o,TN a b y->B y=some o->M y=some o)->fj C M cb sl ll (fV++ [S]) []/\sf M kp r0 p0 t0 S:=λs=>⟨(c.same sB).st s (tB s) (na _ ς) (na _ ς) (na _ ς),(k.same sB).st s (tB s) (na _ ς) (na _ ς) (na _ ς)⟩;clear W kz a2 b2 pB;refine NeI.mk ⟨⟨os,Ng,Y6,[],W3.cl⟩,⟨sl,ll,fV,[],(cM W3.s).1⟩,AU ok,AU ok⟩ λM4 s4=>?_;show Ci _ _ (not (decide (S.cC=S.cC/\S.rows=S.rows)));rw[aZ ⟨rfl,rfl⟩];refine yO (i:=4) (U:=[some (.ref cb),some (.ref a),some (.ref b),some (.ref kp),some (.ref ob),v,v6,v7,v8]) rfl (W3.cl.same s4) ok.pc ω ?_;intro t' r' p' u' M5 s5 _ _ _ k5;refine Km.mk k5.Tz ((cM W3.s).2.same (s4.trans s5)).Tz (sh ok) (sh ok) ?_;rw[lU _ (sh ok).1];have W5:=W3.same (s4.trans s5);obtain⟨_,_,_,dx,fs,_,_,_,L⟩:=W5.cl.lst;refine jr.mk L.i (L.m _ δ δ) (Sr.mk W5.cl ω ω (Ej ok).1 λll3 M6 k6 f6 c6=>?_);have W6:=W5.Ct (λy e=>⟨λz=>by(obtain⟨_,h,_⟩:=P3 y (.inl z);rw[(s4.trans s5) _ _ h] at e;cases e),λz=>by(obtain⟨_,h,_⟩:=P3 y (.inr z);rw[(s4.trans s5) _ _ h] at e;cases e)⟩) k6 f6 c6;refine NeI.mk ⟨⟨os,ll3,_,[],W6.cl⟩,⟨sl,ll,fV,[],(cM W6.s).1⟩,TH ok 0,AU ok⟩ λM7 s7=>?_;show Xc _ _ _ _ (.bl (not (decide (S.cC=S.cC/\MN S.rows 0=S.rows))));rw[bw λz=>(Ej ok).2 z.2];refine yO (i:=0) (U:=[some (.ref cb),some (.ref a),some (.ref b),some (.ref kp),some (.ref ob),v,v6,v7,v8]) rfl ((cM W6.s).1.same s7) ok.pc ω ?_;intro t' r' p' u' M8 s8 _ _ _ k8;refine Km.mk ((cM W6.s).2.same (s7.trans s8)).Tz k8.Tz (sh ok) (sh ok) ?_;rw[lU _ (sh ok).1];exact q M8 λy o z e=>s8 _ _ (s7 _ _ (W6.s _ _ z (sB _ _ e)))
def TR {a b:Int}(h:a.natAbs<=1000000000) (k:b.natAbs<=1000000000):(a*b).natAbs<=1000000000000000000:=by rw[vJ];exact aB (vM h k) δ
def JT (o1:gW p) (o2:gW q):A2 (u9 p q m y).2.2:=by
 have i1:=o1.c1;have i2:=o1.c9;have i3:=o2.c1;have i4:=o2.c9;have i5:=o1.t1;have i6:=o1.t9;have i7:=o1.o1;have i8:=o1.o9;have j5:=o2.t1;have j6:=o2.t9;have j7:=o2.o1;have j8:=o2.o9;have m1:((p.o-p.t)*q.c).natAbs<=1000000000000000000:=TR ω ω;have m2:((q.o-q.t)*p.c).natAbs<=1000000000000000000:=TR ω ω;have m3:(p.c*q.c).natAbs<=1000000000000000000:=TR ω ω;have c0:0<p.c*q.c:=lW ω ω;have ld:(Gh p q).natAbs<=2000000000000000000:=by unfold Gh;omega
 clear i1 i2 i3 i4 i5 i6 i7 i8 j5 j6 j7 j8 m1 m2;have key:∀d:Int,0<d->d.natAbs<=2000000000000000000->A2 (eZ d (p.c*q.c),eN d (p.c*q.c)):=λd h k=>by have a1:0<=eZ d (p.c*q.c):=Int.ediv_nonneg (ky h) (Int.natCast_nonneg _);have a2:=uZ (t:=d) (b:=p.c*q.c);have a3:=u6 (t:=d) (b:=p.c*q.c);have a4:=lM (t:=d) c0;exact⟨a1,by show eZ _ _<=_;omega,a4,by show eN _ _<=_;omega⟩
 unfold u9;dsimp only;split
 .exact key _ (by assumption) ld
 .split
  .exact key _ ω ω
  .exact(show A2 ((0:Int),(1:Int)) from⟨δ,δ,δ,δ⟩)
def F5 (o1:gW p) (o2:gW q) (h:mH p q=some t):A2 t.2.2:=by
 unfold mH at h;split at h
 .cases h;exact JT o1 o2
 .cases h
def Ek (hx:gW x.2):∀{l:Rows},(∀y∈l,gW y.2)->r∈Kp x l->A2 r.2.2.2.2
 | [],_,h=>by cases h
 |y::l,ho,h=>by
  rcases aX.mp h with h|h
  .obtain⟨t,e,rfl⟩:=AD h;exact F5 hx (ho y (.head _)) e
  .exact Ek hx (λz hz=>ho z (.tail _ hz)) h
def El:∀{l:Rows},(∀y∈l,gW y.2)->r∈Ax l->A2 r.2.2.2.2
 | [],_,h=>by cases h
 |y::l,ho,h=>by
  rcases aX.mp h with h|h
  .exact Ek (ho y (.head _)) (λz hz=>ho z (.tail _ hz)) h
  .exact El (λz hz=>ho z (.tail _ hz)) h
def Y7:Nat->Nat
 |0=>0
 |n+1=>n+Y7 n
def Em (x:Nat×oi):∀l:Rows,(Kp x l).length<=l.length
 | []=>ao _
 |y::l=>by
  show(Co _ _ _++Kp x l).length<=l.length+1;have:=Em x l;have:(Co x.1 y.1 (mH x.2 y.2)).length<=1:=by
   cases mH x.2 y.2 with
   |none=>exact bH _
   |some t=>exact ao _
  rw[aA];omega
def En:∀l:Rows,(Ax l).length<=Y7 l.length
 | []=>ao _
 |y::l=>by show(Kp y l++Ax l).length<=l.length+Y7 l.length;have:=Em y l;have:=En l;rw[aA];omega
def JU (h:n<=m):Y7 n<=Y7 m:=by
 induction h with
 |refl=>exact ao _
 |step _ ih=>exact aB ih (gE _ _)
def Y8 (h:ko S):(Ax S.rows).length<=15:=aB (En _) (aB (JU h.r6) δ)
def JV {s}(h:Rb rows) (ls:s.length=2):tJ (jO rows s)<=1000000000:=by
 match s,ls with
 | [x,y],_=>have a:=yH h.w x;have b:=yH h.w y;show tJ (FN rows x*(2*((0:Nat):Int)+1-2)+(FN rows y*(2*((1:Nat):Int)+1-2)+0))<=_;unfold tJ;split<;>omega
def F6 (h:Rb rows) (s:qX rows 1000000000 r):∃z t,r=.sg z t/\z∈E2 rows:=by
 rcases s with⟨z,e,rfl⟩|⟨no,z,m,_⟩
 .exact⟨z,_,rfl,Oj e⟩
 .exact absurd (List.find?_eq_none.mp no z m) (λn=>n (aZ (JV h (kK m).2)))
def Y9 (h:oO b a=false) (n:a.1≠b.1):dH a.1 b.1=true:=by
 rcases qK n with z|z
 .exact z
 .unfold oO z_ at h;rw[aI n.symm,z] at h;cases h
def AV (so:km l=l) (nd:(eO l).Nodup):Up (eO l):=by have h:=jX l;rw[so] at h;unfold eO at nd;have n2:=Bf.mp nd;exact Bf.mpr ((h.and n2).imp λ⟨x,y⟩=>Y9 x y)
def Zt (Pt Pu y:aq):Prop:=y≠Pt/\y≠Pu
def Kt (Pt Pu:aq) (H M:Hp):Prop:=∀y o,Zt Pt Pu y->H y=some o->M y=some o
def Kt.trans {H}(h:Kt Pt Pu H M) (k:Kt Pt Pu M N):Kt Pt Pu H N:=λy o z e=>k _ _ z (h _ _ z e)
def Kt.of {H}(s:bc H M):Kt Pt Pu H M:=λy o _ e=>s _ _ e
def Kt.l {H}(k:cX Pt H M):Kt Pt Pu H M:=λy o z e=>k _ _ z.1 e
structure xw (Pt Pu:aq) (H:Hp):Prop where
 t:Tab H Pt
 u:yJ H Pu
 n:Pt≠Pu
def xw.z {H}(h:xw Pt Pu H) (e:H y=some o) (n:∀ps,o≠.jT ps):Zt Pt Pu y:=⟨Tab.ne h.t e n,yJ.ne h.u e n⟩
def xw.same {H}(h:xw Pt Pu H) (s:bc H M):xw Pt Pu M:=⟨h.t.same s,h.u.same s,h.n⟩
def xw.l {H}(h:xw Pt Pu H) (k:cX Pt H M) (t:Tab M Pt):xw Pt Pu M:=by
 refine⟨t,?_,h.n⟩;rcases h.u with u|⟨co,u,v⟩
 .exact .inl (k _ _ h.n.symm u)
 .exact .inr ⟨co,k _ _ h.n.symm u,k _ _ (Tab.ne h.t v λ_ z=>nomatch z) v⟩
def xw.r {H}(h:xw Pt Pu H) (k:cX Pu H M) (t:yJ M Pu):xw Pt Pu M:=by
 refine⟨?_,t,h.n⟩;rcases h.t with u|⟨co,u,v⟩
 .exact .inl (k _ _ h.n u)
 .exact .inr ⟨co,k _ _ h.n u,k _ _ (yJ.ne h.u v λ_ z=>nomatch z) v⟩
def xw.st {H}{Z:aq->Prop}(h:xw Pt Pu H) (s:∀y o,Z y->H y=some o->M y=some o) (hz:∀y o,H y=some o->(∀xs,o≠.lst xs)->Z y):xw Pt Pu M:=by
 have k:∀{y o},H y=some o->(∀xs,o≠.lst xs)->M y=some o:=λe n=>s _ _ (hz _ _ e n) e;refine⟨?_,?_,h.n⟩
 .rcases h.t with u|⟨co,u,v⟩
  .exact .inl (k u λ_ z=>nomatch z)
  .exact .inr ⟨co,k u (λ_ z=>nomatch z),k v (λ_ z=>nomatch z)⟩
 .rcases h.u with u|⟨co,u,v⟩
  .exact .inl (k u λ_ z=>nomatch z)
  .exact .inr ⟨co,k u (λ_ z=>nomatch z),k v (λ_ z=>nomatch z)⟩
def xw.lst {H}{Pt Pu l:aq} (h:xw Pt Pu H) (k:cX l H M) (e:H l=some (.lst xs)):xw Pt Pu M:=h.st (Z:=λy=>y≠l) (λ_ _ n e=>k _ _ n e) λy o e2 n z=>n xs (by rw[z,e] at e2;exact(bf e2).symm)
def TU {rows:List jN}{ts:List Td}{ns:Aab}{x y:Str}{r:NY}(h:JS rows ts ns x y r) (hb:Rb rows) (e:eO rows=ns):Ly 5 (t5D r):=by
 have so:∀z∈ns,PyData.strOk z=true:=λz hz=>hb.so z (by rw[e];exact hz);have okz:∀z∈E2 rows,∀n∈z,PyData.strOk n=true:=λz hz n hn=>hb.so n ((kK hz).1 n hn);refine p9 (n:=4) (ck ?_ (ck ?_ (ck ?_ (ck ?_ (ck ?_ iq)))))
 .cases r.W with
  |none=>exact JQ.mono δ
  |some W=>refine(p9 (n:=0) λd hd=>?_).mono δ;obtain⟨n,_,rfl⟩:=br.mp hd;exact gJ _
 .obtain⟨n,_,_,b⟩:=h.o;exact(gu (n:=1) (ck (gu (ck (gJ _) (ck (gJ _) iq))) (ck (p9 (kq λz hz=>so z (b.perm.mem_iff.mp hz))) iq))).mono δ
 .rw[h.v];refine(nS ?_).mono δ;unfold NN;generalize tL (y,true) _=a;generalize tL (x,true) _=b;generalize tL (y,false) _=c;cases a<;>cases b<;>cases c<;>decide+kernel
 .cases r.f with
  |none=>exact JQ.mono δ
  |some n=>exact(gJ _).mono δ
 .rcases h.s with⟨z,e,h⟩|⟨_,z,m,_,h⟩
  .rw[h];exact(gu (n:=1) (ck ((nS η).mono δ) (ck (gu (kq (okz z (Oj e)))) (ck ((gJ _).mono δ) iq)))).mono δ
  .rw[h];exact(gu (n:=1) (ck ((nS η).mono δ) (ck ((gJ _).mono δ) (ck (gu (kq (okz z m))) iq)))).mono δ
def AR.perm (h:AR ts ns x y o) (p:ns.Perm ms):AR ts ms x y o:=by obtain⟨n,e1,e2,b⟩:=h;exact⟨n,e1,e2,b.Ph p⟩
def Oa (h:xs.length<=40):gO xs none (some 40)=xs:=by unfold gO;rw[jD,show((40:Int))=((40:Nat):Int) from rfl,ju,List.drop_zero,show min 40 xs.length-0=xs.length by omega,bX]
def F7 (ns:List Int):∃c:Int,xK (ns.map V.int++ [V.int 0]) 0=some (.int c):=by
 cases ns with
 |nil=>exact⟨0,a_ (j:=0) rfl⟩
 |cons c ns=>exact⟨c,a_ (j:=0) rfl⟩
def Y_ (h:ko S):Rb S.cC:=⟨λr hr=>(h.rw r hr).s,AV h.so h.nd,λr hr=>⟨ji δ (h.rw r hr).w1,(h.rw r hr).w6⟩,h.l3,h.l6,λn hn=>by obtain⟨r,hr,rfl⟩:=br.mp hn;exact(h.rw r hr).n.2.1⟩
def AW (h:ko S):∃x y zs,eO S.cC=x::y::zs:=by
 have l:=h.l3;unfold eO
 match S.cC,l with
 |a::b::c,_=>exact⟨_,_,_,rfl⟩
noncomputable def TV (S:Cs):List Td:=(Ax S.rows).map λr=>r.2.2
def TX (h:ko S):(TV S).length<=15/\∀t∈TV S,A2 t.2.2:=by refine⟨by unfold TV;rw[ah];exact Y8 h,λt ht=>?_⟩;obtain⟨r,hr,rfl⟩:=br.mp ht;exact El (λy hy=>(h.pc y hy).1) hr
def TY {H}(t:Tk H H') (h:nK H a r):∃b c,a=.ref b/\H' b=some (.tup [.int r.1,.int r.2.1,.ref c])/\Pg H' (.ref c) r.2.2:=by obtain⟨b,c,rfl,h1,l,g1,g2⟩:=h;exact⟨b,c,rfl,t _ _ h1,c,l,rfl,t _ _ g1,t _ _ g2⟩
inductive JW (H:Hp) (Q:Bool->Hp->Prop) (U:St):Prop
 |mk {ra nn:aq} {us:Aac} {S:Cs} {x:Str} {r:Aab} (e5:gv U 5=some (.ref ra)) (e7:gv U 7=some (.ref nn)) (ok:ko S) (en:eO S.cC=x::r) (ha:H ra=some (.lst us)) (pa:Paired (gZ H) us S.cC) (hn:H nn=some (.lst ((x::r).map V.str))) (q:∀M,bc H M->Q false M):JW H Q U
def tEv:TT:=λU H Q=>JW H Q U
def TZ {U}{H}(h:tEv U H Q):OZ (nG (oH (Mz id) (oH (rI (λ_ j=>0<j) λi j=>.int (i %j)) (VE kj (dF (vC 5) gk)) (tC (.int 2))) (tC (.int 0)))) (nG (oH (Mz not) (oH hE (oH hE (o_ EvC E0 (dF (vC 5) gk)) (tC (.int 1))) (tC (.int 0))) (oH rW (vC 7) (tC (.int 0))))) U H Q:=by obtain @⟨ra,nn,us,S,x,r,e5,e7,ok,en,ha,pa,hn,q⟩:=h;have lu:=ee pa;refine xq e5 (kj.l ha ⟨_,_,rfl,rfl,(show(0:Int)<2 by decide),?_⟩);show Ci _ _ (id (decide ((us.length:Int) %2=0)));refine Mv (λe=>?_) λ_=>q H (bc.refl _);have l3:=ok.l3;have l6:=ok.l6;refine xq e5 (EvI.mk ha pa en (AV ok.so ok.nd) ω ω ω (Y_ ok).so λt l d u M s h1 h2=>?_);refine hE.mk h1 (a_ (j:=1) rfl) (hE.mk h2 (a_ (j:=0) rfl) (xq e7 (rW.mk (s _ _ hn) (a_ (j:=0) rfl) ?_)));show Q (!decide (x=x)) M;rw[aZ rfl];exact q M s
abbrev yP:Stmt:=top 76
def ab6:Aab:=["script","deck","club","kept","cell","rowers","trials","names","told","rig","seating"]
def mJ:bx ab6 ["script"] (aP yP):={}
def ab7:(["row"]:Aab).Nodup:=η
def Eo (K:Φ) (Pt Pu:aq):Sp:=λvs H Q _=>∃(a:aq) (ns:List Int),vs=[.ref a]/\gj K H a (ns.map V.int)/\ns.length<=63/\Tab H Pt/\yJ H Pu/\Pu≠Pt/\∀H',Q (.bl true) H'
def T3 (F:gX K "law" "law" yP f fd) (T:Txt mg) (DD:Df P w K mg base 1 "_law_deck" ["cell","turn"] Z8) (DC:Df P w K mg base 5 "_law_club" ["deck"] (CbC C)) (DR:vE P w K mg base 1 C "rowers" ["self"] (xj C)) (DS:vE P w K mg base 1 C "pieces" ["self"] (Cr C)) (DU:vE P w K mg base 5 C "trials" ["self"] (Nd C)) (DA:Df P w K mg base 6 "_law_all_told" ["rowers","trials","names"] (YZ Pt)) (DG:Df P w K mg base 2 "_law_rig" ["deck","many"] RgC) (DSe:U4 P w K mg base 4 "seated" ["rowers","rig","most"] (SeC Pt)) (DRs:Df P w K mg base 5 "reseated" ["rowers","rig","seating","absent"] (RsC Pu)) (DB:Df P w K mg base 3 "best_order" ["trials","names"] BoC) (DE:Df P w K mg base 3 "evened" ["rowers"] EvC) (DO:Df P w K mg base 6 "_law_other_right" ["club","rowers","pieces","kept"] (OrC C)):cG P w K mg base fK 7 f fd ["script"] (Eo K Pt Pu):=by
 refine F.ok mJ (λvs H Q E h=>by obtain⟨a,ns,rfl,_⟩:=h;rfl) (λeU A outer s H vs Q E hr h=>?_);have hr5:=hr.mono (j:=5) δ;have Gm:=hr.mono (j:=4) δ;have TC:=hr.mono (j:=3) δ;have AG:=hr.mono (j:=2) δ;have vo:=hr.mono (j:=1) δ;refine⟨_,az (iQ (i:=1) mJ.nd (pD DD vo (ae (bW kl (bQ (RN K) (pC 0) (oU (ae aH aj))) aH) (ae aH aj)))) (az (iQ (i:=2) mJ.nd (pD DC hr5 (ae (pC 1) aj))) (az (iQ (i:=3) mJ.nd (jx (ae (yD DR vo (pC 2)) (ae (yD DS vo (pC 2)) (ae (yD DU hr5 (pC 2)) aj))))) (az (gy bz rfl (MD K 0 (l:=some 1) (h:=some 11) (pC 0) (C7 aH) (C7 aH) (λ_ _ _ q=>⟨_,rfl,q⟩) (λ_ _ _ q=>⟨_,rfl,q⟩) (oU (ae aH aj))) (aM (i:=4) mJ.nd) (az (iQ (i:=1) mJ.nd (pD DD vo (ae (pC 4) (ae aH aj)))) (az (iQ (i:=5) mJ.nd (yD DR vo (pC 2))) (az (iQ (i:=6) mJ.nd (gx qz (gm (N:=["row"]) (g:=d_ 0) (tc:=lF) (te:=oH hE (vC 0) (tC (.int 2))) rfl (om K (yD DU hr5 (pC 2))) (cY.closed rfl) (λ_ _ _=>aM (i:=0) ab7) (λ_ _ _=>eD) (λ_ _ _=>bW eV (pC 0) aH)) jv (tI aH))) (az (ny (i0:=7) (N:=["one"]) (g:=d_ 0) (tc:=lF) (te:=oH hE (vC 0) (tC (.int 0))) mJ.nd rfl (Or.inl rfl) rfl (om K (pC 5)) (cY.closed rfl) (λ_ _ _=>aM (i:=0) XS) (λ_ _ _=>eD) (λ_ _ _=>bW eV (pC 0) aH)) (az (iQ (i:=8) mJ.nd (pD DA hr (ae (pC 5) (ae (pC 6) (ae (pC 7) aj))))) (az (gI (fG (Z4 hr.units) (pC 8) (pD DA hr (ae (dO Fx rfl T.list eA (ae (pC 5) aj)) (ae (dO Fx rfl T.list eA (ae (pC 6) aj)) (ae (dO Fx rfl T.list eA (ae (pC 7) aj)) aj)))) (cO _)) dJ cj) (az (iQ (i:=9) mJ.nd (pD DG AG (ae (pC 1) (ae aH aj)))) (az (iQ (i:=10) mJ.nd (bW eV (pD DSe.df Gm (ae (pC 5) (ae (pC 9) (ae (bQ me aH aH) aj)))) aH)) (az (gI (PW.pt (Fz (fG (Z4 hr.units) (pD DRs hr5 (ae (pC 5) (ae (pC 9) (ae (pC 10) (ae (oU aj) aj))))) (jx (ae aH (ae (pC 10) aj))) (cO _)) (pK (fG (Z4 hr.units) (pD DB TC (ae (pC 6) (ae (bW eV (bW kl (pC 8) aH) aH) aj))) (bW kl (pC 8) aH) (cO _))))) dJ cj) (az (gI (PT.wk (PW.pt (Aq (fG oQ (bQ kT (bj mw rfl T.len bY (ae (pC 5) aj)) aH) aH (cO _)) (qt (fG oN (bW eV (bW eV (pD DE TC (ae (pC 5) aj)) aH) aH) (bW kl (pC 7) aH) (cO _))))) λ_ _ _=>TZ) dJ cj) (az (eR (pV cI cJ pf (bW eV (bW kl (pC 8) aH) aH) (ae jK aj))) (az (eR (pV cI cJ pf (pC 6) (ae jK aj))) (aO (gI (ib (pU (pD DO hr (ae (pC 2) (ae (pC 5) (ae (yD DS vo (pC 2)) (ae (pC 3) aj))))))) dJ cj))))))))))))))) (aO (bK o6))))),?_⟩;obtain⟨a,ns,rfl,hS,l63,tb,tu,PB,q⟩:=h;obtain⟨c,ec⟩:=F7 ns;refine cU.mk rfl λp0 M0 s0 w0 _=>yo.mk (s0.seq hS) w0 (by rw[ah];show ns.length+1<=10000;omega) λp1 M1 s1 w1 _=>rW.mk w1 ec (Z7.mk δ λk M2 nk s2 d2=>CbI.mk d2 δ λcb sl ll S fV M3 k3 _ c3 ok l20=>?_);have oX:=(s0.trans s1).trans s2;have s3:bc H M3:=λy o e=>k3 _ _ (λz=>by rw[z,gq (s0.trans s1) nk] at e;cases e) (oX _ _ e);refine yO (i:=2) (U:=[some (.ref a),some (.ref k),some (.ref cb),none,none,none,none,none,none,none,none]) rfl c3 ok.pc (aB ok.r6 δ) λkp r0 p0 t0 M4 s4 _ _ _ k4=>Ip.mk ((s3.trans s4).seq hS) λp B cs s5 np pB _=>?_;have sB:=(s3.trans s4).trans s5;have Ob:xw Pt Pu B:=⟨tb.same sB,tu.same sB,PB.symm⟩;have cB:fj C B cb sl ll (fV++ [S]) []:=c3.same (s4.trans s5);have kB:sf B kp r0 p0 t0 S:=k4.same s5;clear d2 k3 nk;obtain⟨_,_,_,g1,_,_,_,g5,g6,_⟩:=id cB;obtain⟨_,⟨_,h1,_⟩,⟨_,h2,_⟩,⟨_,h3,_⟩⟩:=id kB;have zc:=Ob.z g1 λ_ z=>nomatch z;have zs:=Ob.z g5 λ_ z=>nomatch z;have zl:=Ob.z g6 λ_ z=>nomatch z;have zr:=Ob.z h1 λ_ z=>nomatch z;have zp:=Ob.z h2 λ_ z=>nomatch z;have zt:=Ob.z h3 λ_ z=>nomatch z;have cM:∀{M},Kt Pt Pu B M->fj C M cb sl ll (fV++ [S]) []/\sf M kp r0 p0 t0 S:=λs=>by have t:Tk B _:=λb xs e=>s _ _ (Ob.z e λ_ z=>nomatch z) e;exact⟨cB.st s t zc zs zl,kB.st s t zr zp zt⟩
 have hzz:∀y∈[cb,sl,ll,r0,p0,t0],Zt Pt Pu y/\∃o,B y=some o:=by
  simp only[aU,bF,eE];rintro y (rfl|rfl|rfl|rfl|rfl|rfl)
  .exact⟨zc,_,g1⟩
  .exact⟨zs,_,g5⟩
  .exact⟨zl,_,g6⟩
  .exact⟨zr,_,h1⟩
  .exact⟨zp,_,h2⟩
  .exact⟨zt,_,h3⟩
 obtain⟨x,y,zn,en⟩:=AW ok;obtain⟨l15,YY⟩:=TX ok;have T4:=Y_ ok;have l6:=ok.l6;have l3:=ok.l3;have r6:=ok.r6;refine lN (λi U M=>(∃v1 v4 v5 v6 v7 v8 v9 v10,U=[some (.ref a),v1,some (.ref cb),some (.ref kp),v4,v5,v6,v7,v8,v9,v10])/\Kt Pt Pu B M/\xw Pt Pu M) ⟨⟨_,_,_,_,_,_,_,_,rfl⟩,λ_ _ _ e=>e,Ob⟩ (λi U M h=>h.2.1 _ _ (Ob.z pB λ_ z=>nomatch z) pB) ?_ λU M _=>q M;rintro i cell U M D' hx ⟨⟨v1,v4,v5,v6,v7,v8,v9,v10,rfl⟩,kt,tb⟩ ⟨nx,_⟩;obtain⟨cell,rfl⟩:∃z:Int,cell=.int z:=by
  rw[aR] at hx;cases e:cs[i]? with
  |none=>rw[e] at hx;cases hx
  |some z=>rw[e] at hx;exact⟨z,(bf hx).symm⟩
 obtain⟨_,_,_,dx,fs,_,_,_,L⟩:=(cM kt).1.lst;refine Z7.mk δ λk M1 nk s1 d1=>jr.mk (s1 _ _ L.i) (L.m _ δ δ) (kJ.mk ((cM kt).1.same s1) λra us M2 s2 w2 na p2=>?_);have oW:=s1.trans s2;refine jr.mk (oW _ _ L.i) (L.m _ δ δ) (Nc.mk ((cM kt).1.same oW) ok.pc ω λtl ws M3 s3 w3 n3 p3=>mZ.mk w3 λD hD=>?_);have zU:=oW.trans s3;refine Gi Pg (λr:Row3=>r.2.2) (λU=>∃v,U=[v]) hD (wa w3) p3 (by rw[ee p3];have:=Y8 ok;omega) ⟨_,rfl⟩ (λ_ _ _ _ t h=>h.mono t) (λU M x a Y fr s r _ hy=>?_) λKw M4 s4 w4 p4=>?_
 .obtain⟨v,rfl⟩:=fr;obtain⟨b,c,rfl,h1,h2⟩:=TY s.vd r;exact hE.mk h1 (a_ (j:=2) rfl) (hy _ _ _ ⟨_,rfl⟩ (bc.refl _) h2)
 have lt:Kw.length=(TV S).length:=ee p4;refine Fy.l w4 λZa M5 s5 w5 n5=>?_;rw[Oa ω] at w5;have s45:=s4.trans s5;have T5:=s3.trans s45;refine mZ.mk (T5 _ _ w2) λD7 XU=>?_;refine Gi (λ_ v b=>v=.str b) (λr:jN=>r.1) (λU=>∃v,U=[v]) XU (wa (T5 _ _ w2)) (acM p2 λ_ _ z=>z.up T5.vd) (by rw[ee p2];show S.cC.length<=1000;omega) ⟨_,rfl⟩ (λ_ _ _ _ _ e=>e) (λU M x a Y fr s r _ hy=>?_) λys M6 s6 w6 p6=>?_
 .obtain⟨v,rfl⟩:=fr;obtain⟨u,rfl,h1⟩:=r;exact hE.mk (s _ _ h1) (a_ (j:=0) rfl) (hy _ _ _ ⟨_,rfl⟩ (bc.refl _) rfl)
 rw[pairE p6,show S.cC.map (λr:jN=>r.1)=eO S.cC from rfl,en] at w6;have U7:=T5.trans s6;have sM6:=oW.trans U7;have tb6:=tb.same sM6;have so:∀z∈x::y::zn,PyData.strOk z=true:=λz hz=>by rw[<-en] at hz;exact T4.so z hz
 have lu:=ee p2;have ll:(x::y::zn).length<=6:=by rw[<-en];unfold eO;rw[ah];exact l6
 have lw:Lw M6 ra Za D7 Pt us Kw S.cC (TV S) x y zn:=⟨U7 _ _ w2,acM p2 λ_ _ z=>z.up U7.vd,s6 _ _ w5,r_.mono p4 (s5.trans s6).vd,w6,en,T4,l15,YY,tb6.t⟩;refine N0.mk lw λl pb pq pl vr vf vs r M7 k7 tb7 nl npb Pn at7 ok7=>?_;have tT7:=tb6.l k7 tb7;have n7:∀{y o},(∀ps,o≠.jT ps)->M6 y=some o->M7 y=some o:=λn e=>k7 _ _ (tb6.z e n).1 e;have t7:Tk M6 M7:=λb xs e=>n7 (λ_ z=>nomatch z) e;have nt:∀{xs:Aac} ps,HO.lst xs≠.jT ps:=λ_ z=>nomatch z;refine yk.l (n7 nt lw.a) λa2 M8 s8 w8 _=>yk.l (s8 _ _ (n7 nt lw.b)) λb2 M9 s9 w9 _=>yk.l (s9 _ _ (s8 _ _ (n7 nt lw.n))) λn2 M10 jW wK _=>?_;have s7A:=(s8.trans s9).trans jW;have tTA:=tT7.same s7A;refine N0.mk (rows:=S.cC) (ts:=TV S) ⟨(s9.trans jW) _ _ w8,acM lw.pa λ_ _ z=>z.up λb xs e=>s7A _ _ (t7 _ _ e),jW _ _ w9,lw.pb.mono λb xs e=>s7A _ _ (t7 _ _ e),wK,en,T4,l15,YY,tTA.t⟩ λl' pb' pq' pl' vr' vf' vs' r' N kN tbN _ _ _ atN okN=>?_;obtain rfl:=okN.uniq ok7;have k7N:=s7A.keep.trans kN;have Zb:=at7.keep tb7 k7N;have ly:=(TU ok7 T4 en).lay δ;refine Km.mk Zb.Tz atN.Tz ly ly ?_;rw[lU _ ly.1];have kpN:=k7.trans k7N;have tTN:=tTA.l kN tbN;have nN:∀{y o},(∀ps,o≠.jT ps)->M6 y=some o->N y=some o:=λn e=>kpN _ _ (tb6.z e n).1 e;have tN:Tk M6 N:=λb xs e=>nN (λ_ z=>nomatch z) e;have Kh:=s2.trans U7;have d6:=iz d1 Kh;have dN:dE N k 690:=by obtain⟨⟨u,v,e,g⟩,h⟩:=d6;exact⟨⟨u,v,nN nt e,g⟩,h⟩
 have ktN:Kt Pt Pu B N:=(kt.trans (Kt.of sM6)).trans (Kt.l kpN);have nka:ra≠k:=(d1.ne na).symm;have nkb:Za≠k:=((iz d1 ((s2.trans s3).trans s4)).ne n5).symm;have nkn:D7≠k:=((iz d1 (s2.trans T5)).ne XU).symm;have nkl:l≠k:=(d6.ne nl).symm;have nkp:pl≠k:=(d6.ne Pn).symm;refine RgI.mk (j:=1) dN δ δ δ λg ss c' P1 k1 e1 _ _ w1 lss oss=>?_;have t1:Tk N P1:=nI dN k1;have tT1:xw Pt Pu P1:=by obtain⟨⟨u,v,e,g⟩,h⟩:=id dN;exact tTN.lst k1 e
 refine⟨_,_,rfl,rfl,⟨δ,δ,δ⟩,?_⟩;have ha1:P1 ra=some (.lst us):=k1 _ _ nka (nN nt lw.a);have pa1:Paired (gZ P1) us S.cC:=acM lw.pa λ_ _ z=>z.up λb xs e=>t1 _ _ (tN _ _ e);have hb1:P1 Za=some (.lst Kw):=k1 _ _ nkb (nN nt lw.b);have pb1:r_ P1 Kw (TV S):=lw.pb.mono λb xs e=>t1 _ _ (tN _ _ e);have hn1:P1 D7=some (.lst ((x::y::zn).map V.str)):=k1 _ _ nkn (nN nt lw.n);have hl1:=k1 _ _ nkl Zb.l;have T6:=t1 _ _ Zb.b;have ab8:=t1 _ _ Zb.q;have T7:=k1 _ _ nkp Zb.o;refine SeI.mk ⟨⟨us,ha1,pa1⟩,T4,w1,lss⟩ tT1.t λrs v P2 k2 Ru hs at2=>?_;rw[show((10:Int)^(9:Int).toNat)=1000000000 from by decide] at hs;obtain⟨z,t,rfl,hz⟩:=F6 T4 hs;obtain⟨za,zb,rfl,z1,z2⟩:=at2;have tT2:=tT1.l k2 Ru;have m2:∀{y o},(∀ps,o≠.jT ps)->P1 y=some o->P2 y=some o:=λn e=>k2 _ _ (tT1.z e n).1 e;refine hE.mk z1 (a_ (j:=1) rfl) (cU.mk rfl λe0 P3 Jt w3' _=>?_);have tT3:=tT2.same Jt;have m3:∀{y o},(∀ps,o≠.jT ps)->P1 y=some o->P3 y=some o:=λn e=>Jt _ _ (m2 n e);have t3:Tk P1 P3:=λb xs e=>m3 (λ_ z=>nomatch z) e;refine RsI.mk ⟨⟨us,m3 nt ha1,acM pa1 λ_ _ z=>z.up t3⟩,T4,t3 _ _ w1,lss⟩ tT3.u (Jt _ _ z2) hz w3' λya yb P4 k4 Nv y1 y2=>cU.mk rfl λt5 P5 U8 w5' _=>?_;have zo:∀n∈z,PyData.strOk n=true:=λn hn=>so n (by rw[<-en];exact(kK hz).1 n hn);have lyz:=(gu (n:=1) (ck ((gJ 0).mono δ) (ck (gu (kq zo)) iq))).lay δ;have tT4:=tT3.r k4 Nv;have m4:∀{y o},(∀ps,o≠.jT ps)->P1 y=some o->P5 y=some o:=λn e=>U8 _ _ (k4 _ _ (tT3.z (m3 n e) n).2 (m3 n e));have zb5:P5 zb=some (.tup (z.map V.str)):=U8 _ _ (k4 _ _ (tT3.z (Jt _ _ z2) (λ_ z=>nomatch z)).2 (Jt _ _ z2));refine Km.mk (fz (U8 _ _ y1) (bI (fM _) (bI (fz (U8 _ _ y2) (ip _)) fm))).one (fz w5' (bI (fM 0) (bI (fz zb5 (ip _)) fm))).one lyz lyz ?_;rw[lU _ lyz.1];have tT5:=tT4.same U8;have t5':Tk P1 P5:=λb xs e=>m4 (λ_ z=>nomatch z) e;have oP:(r'.o).Perm (x::y::zn):=by obtain⟨_,_,_,b⟩:=ok7.o;exact b.perm
 refine rW.mk (m4 nt hl1) (a_ (j:=1) rfl) (hE.mk (t5' _ _ T6) (a_ (j:=1) rfl) (BoI.mk (m4 nt hb1) (pb1.mono t5') l15 YY (m4 nt T7) (λz=>by rw[z] at oP;cases oP.symm.eq_nil) (by rw[oP.length_eq];omega) (oP.nodup_iff.mpr (by rw[<-en];exact ok.nd)) (λz hz=>so z (oP.mem_iff.mp hz)) λp' q' l' x' y' o' P6 s6' _ _ f1 f2 f3 bo=>?_));obtain⟨rfl,rfl,rfl⟩:=bo.uniq (ok7.o.perm oP.symm);have m6:∀{y o},(∀ps,o≠.jT ps)->P1 y=some o->P6 y=some o:=λn e=>s6' _ _ (m4 n e);have t6:Tk P1 P6:=λb xs e=>m6 (λ_ z=>nomatch z) e;have lyb:Lay (JR r'.t r'.b r'.o):=(gu (n:=1) (ck (gu (ck (gJ r'.t) (ck (gJ r'.b) iq))) (ck (p9 (kq λz hz=>so z (oP.mem_iff.mp hz))) iq))).lay δ;refine rW.mk (m6 nt hl1) (a_ (j:=1) rfl) (Km.mk (vz f1 f2 f3).one (vz (t6 _ _ T6) (t6 _ _ ab8) (m6 nt T7)).one lyb lyb ?_);rw[lU _ lyb.1];have tT6:=tT5.same s6';have kt1:Kt Pt Pu B P1:=λy o z e=>k1 _ _ (λw=>by have:=kt _ _ z e;rw[w,nk] at this;cases this) (ktN _ _ z e);have kt6:Kt Pt Pu B P6:=λy o z e=>s6' _ _ (U8 _ _ (k4 _ _ z.2 (Jt _ _ (k2 _ _ z.1 (kt1 _ _ z e)))));refine JW.mk rfl rfl ok en (m6 nt ha1) (acM pa1 λ_ _ z=>z.up t6) (m6 nt hn1) λP7 PD=>?_;have Oc:=PD _ _ (m6 nt T7);refine rW.mk (PD _ _ (m6 nt hl1)) (a_ (j:=1) rfl) (hE.mk (PD _ _ (t6 _ _ T6)) (a_ (j:=1) rfl) ⟨IsL.mk Oc,tF.mk Oc (by rw[ah,oP.length_eq];omega) λP8 k8 w8'=>?_⟩);have nbp:Za≠pl:=λz=>by have:=lw.b;rw[z,Pn] at this;cases this
 have nap:ra≠pl:=λz=>by have:=lw.a;rw[z,Pn] at this;cases this
 have hb8:=k8 _ _ nbp (PD _ _ (m6 nt hb1));refine⟨IsL.mk hb8,tF.mk hb8 ω λP9 k9 w9'=>?_⟩;have nab:ra≠Za:=λz=>by have:=s3.trans s4 _ _ w2;rw[z,n5] at this;cases this
 have ab9:=tT6.same PD;have tT9:=(ab9.lst k8 Oc).lst k9 hb8;have Zc:Kt Pt Pu B P9:=λy o z e=>k9 _ _ (λw=>by have:=zU.trans s4 _ _ (kt _ _ z e);rw[w,n5] at this;cases this) (k8 _ _ (λw=>by have:=sM6 _ _ (kt _ _ z e);rw[w,Pn] at this;cases this) (PD _ _ (kt6 _ _ z e)));obtain⟨_,_,_,dx,fs,_,_,_,L9⟩:=(cM Zc).1.lst;refine jr.mk L9.i (L9.m _ δ δ) (kJ.mk (cM Zc).1 λq2 vs2 P10 Od Zd nq p10=>?_);have T9:=Zc.trans (Kt.of Od);have Ze:=Od _ _ (k9 _ _ nab (k8 _ _ nap (PD _ _ (m6 nt ha1))));refine acN.mk (cM T9).1 ok Ze (acM pa1 λ_ _ z=>z.up λb xs e=>Od _ _ (AF hb8 k9 _ _ (AF Oc k8 _ _ (PD _ _ (t6 _ _ e))))) Zd p10 (cM T9).2 (λy hy=>?_) λP11 z11=>nx _ _ ⟨⟨_,_,_,_,_,_,_,_,rfl⟩,λy o z e=>z11 _ _ ⟨λw=>?_,λw=>?_⟩ (T9 _ _ z e),(tT9.same Od).st z11 λy o e n=>⟨λw=>n us ?_,λw=>n vs2 ?_⟩⟩
 .obtain⟨z,o,e⟩:=hzz y hy;exact⟨λw=>by(have:=s1 _ _ (kt _ _ z e);rw[w,na] at this;cases this),λw=>by(have:=Zc _ _ z e;rw[w,nq] at this;cases this)⟩
 .have:=s1 _ _ (kt _ _ z e);rw[w,na] at this;cases this
 .have:=Zc _ _ z e;rw[w,nq] at this;cases this
 .rw[w,Ze] at e;exact(bf e).symm
 .rw[w,Zd] at e;exact(bf e).symm
def Df.up {P}(D:Df P w K mg base k x ps sp) (h:k<=j):Df P w K mg base j x ps sp:=by obtain⟨f,fd,F,b,kp,m⟩:=D;exact⟨f,fd,Mr F h,b,kp,m⟩
section
variable {f c dt:aq}{fd:FuncData}{oc:ai}{od:Option aq}{n t:Nat}{sl:Array (Option ai)}
def AJ.Zf (F:AJ K "seated" "seated" Nq f fd c dt) (ld:K.lookup dt=some ⟨oc,od,.seq #[.int 0 t] n,sl⟩):Binds K fd ["rowers","rig","most"] [.int 0 t]:=by obtain⟨_,_,kV,doc,pm,an,ct,qy,rfl,lk,mX⟩:=F.ex;intro s us KX hl M A E Q hq;rcases us with _|⟨u1,_|⟨u2,_|⟨u3,us⟩⟩⟩<;>first|(simp at hl;done)|exact aa (au (aa (b7 (KX _ _ ld) rfl (au hq))))
def AJ.Zg (F:AJ K "seated" "seated" Nq f fd c dt) (ld:K.lookup dt=some ⟨oc,od,.seq #[.int 0 t] n,sl⟩):Binds K fd ["rowers","rig","most"] []:=by obtain⟨_,_,kV,doc,pm,an,ct,qy,rfl,lk,mX⟩:=F.ex;intro s us KX hl M A E Q hq;rcases us with _|⟨u1,_|⟨u2,_|⟨u3,_|⟨u4,us⟩⟩⟩⟩<;>first|(simp at hl;done)|exact aa (au (aa (b7 (KX _ _ ld) rfl (au hq))))
end
def CI (Pt Pu:aq) (H:Hp):Prop:=H Pt=some (.jT #[])/\H Pu=some (.jT #[])/\∀b,b=Pt\/b=Pu\/H b=none\/∃o xs,H b=some (.Bj o (.lst xs))
def CJ {P}{K:Φ}(KX:K.In cZ.heap) (OC:cZ.heap.Ns mainGlobals mg) (hb:cZ.heap.Ns builtinsNs mb) (Rp:∀x:Str,x≠"__name__"->mb x=bootBuiltins x) (ab_:cZ.heap.NoLimit) (hg:cZ.gens=#[]) (bmA:tz cZ.heap mg) (hT:cZ.heap.get? Pt=some (tabObj #[])) (Zh:K.lookup Pt=none) (hct:isCodeTable cZ.heap Pt) (hU:cZ.heap.get? Pu=some (tabObj #[])) (Zi:K.lookup Pu=none) (Zj:isCodeTable cZ.heap Pu) (PB:Pu≠Pt) (ha:cZ.heap.get? a=some {cls:=.type "list",data:=.seq vs.toArray}) (hi:IntsAre vs ns) (hl:ns.length<=sizeLine) (hr:eS k callerA) (F:∀base:Heap,K.In base->base.Ns mainGlobals mg->tz base mg->cG P w K mg base CX k fa fd [x] sp) (hbind:∀(s:ar) (u:ai),BindsTo s fd ⟨[u],[]⟩ [(x,u)]) (C4:∀H:Hp,CI Pt Pu H->gj K H a (ns.map V.int)->sp [.ref a] H (λv _=>v=.bl true) λ_ _ _=>False) (hCX:∀H e s',CX [] H cZ (λ_ _ _=>False) e s'->False):
  codeAny (model P w) callerA (.call (.ref fa) ⟨[.ref a],[]⟩) (λr s'=>r=.ok (.ret (.bool true))/\OldK cZ.heap s'.heap/\s'.os=cZ.os/\AllBare s'.gens) cZ:=by
 have rv:=wG hi;have aca:=hi.length;have naP:a≠Pt:=λz=>by rw[z,hT] at ha;cases ha
 have naU:a≠Pu:=λz=>by rw[z,hU] at ha;cases ha
 have core:∀H:Hp,CI Pt Pu H->gj K H a (ns.map V.int)->nU P w H cZ.heap->(∀b,H b≠none->b=a\/b=Pt\/b=Pu)->(H a≠none->K.lookup a=none)-> codeAny (model P w) callerA (.call (.ref fa) ⟨[.ref a],[]⟩) (λr s'=>r=.ok (.ret (.bool true))/\OldK cZ.heap s'.heap/\s'.os=cZ.os/\AllBare s'.gens) cZ:=by
  intro H hO hS dh hA hK;have yQ:∀{b:aq} {o:Obj},cZ.heap.get? b=some o->H b=none->(vQ cZ.heap H).get? b=some o:=λe n=>Gx e n;have noK:∀{b:aq} {o:Obj},cZ.heap.get? b=some o->o.cls≠.none->o.cls≠.type "list"->H b=none:=λ{b o} e d1 d2=>by
   cases q:H b with
   |none=>rfl
   |some u=>
    rcases hA b (by rw[q];simp) with e'|e'|e'
    .subst e';rw[ha] at e;cases e;exact absurd rfl d2
    .subst e';rw[hT] at e;cases e;exact absurd rfl d1
    .subst e';rw[hU] at e;cases e;exact absurd rfl d1
  have K6:∀{b:aq} {o:Obj} {es:Array DictEntry} {ep:Nat},cZ.heap.get? b=some o->o.data=.dict es ep->H b=none:=λ{b o es ep} e d=>by
   cases q:H b with
   |none=>rfl
   |some u=>
    rcases hA b (by rw[q];simp) with e'|e'|e'
    .subst e';rw[ha] at e;cases e;have d':Data.seq vs.toArray _=Data.dict es ep:=d;cases d'
    .subst e';rw[hT] at e;cases e;have d':Data.fields #[]=Data.dict es ep:=d;cases d'
    .subst e';rw[hU] at e;cases e;have d':Data.fields #[]=Data.dict es ep:=d;cases d'
  have nsK:∀{b:aq} {m:Aae},cZ.heap.Ns b m->(vQ cZ.heap H).Ns b m:=λ{b m} ⟨o,es,ep,e,d,r⟩=>⟨o,es,ep,yQ e (K6 e d),d,r⟩;have hKb:K.In (vQ cZ.heap H):=λb o e=>yQ (KX b o e) (by
   cases q:H b with
   |none=>rfl
   |some u=>
    rcases hA b (by rw[q];simp) with e'|e'|e'
    .subst e';rw[hK (by rw[q];simp)] at e;cases e
    .subst e';rw[Zh] at e;cases e
    .subst e';rw[Zi] at e;cases e);have hM:Mod K mg (vQ cZ.heap H):=⟨hKb,nsK OC,⟨mb,nsK hb,Rp⟩,let⟨mc,h1,h2⟩:=ab_;⟨mc,nsK h1,h2⟩⟩;have hB:tz (vQ cZ.heap H) mg:=by
   obtain⟨bm,ob,b1,b2,b3,b4,b5,b6⟩:=bmA;exact⟨bm,ob,b1,b2,yQ b3 (noK b3 (by rw[b4];decide) (by rw[b4];decide)),b4,b5,b6⟩
  have e0:uA P w K mg (vQ cZ.heap H) callerA [] cZ H:=⟨rfl,hM,λb o e=>KN e,el (Ey _ _),trivial,λb hb=>absurd (show b∈([]:List aq) from hb) ς,dh,.of_eq hg⟩;refine iM ((F _ hKb (nsK OC) hB).run callerA [] cZ H ⟨[.ref a],[]⟩ [.ref a] [.ref a] _ _ hr e0 (hbind cZ (.ref a)) (.cons rfl .nil) (C4 H hO hS)) λr s' h=>?_;cases r with
  |error e=>exact(hCX H e s' h).elim
  |ok fl=>
   cases fl with
   |next=>exact False.elim h
   |brk=>exact False.elim h
   |cont=>exact False.elim h
   |ret u=>
    obtain⟨v,H',os,bare,un,T_,r',q⟩:=h;have q':v=.bl true:=q;subst q';obtain rfl:u=Value.bool true:=r';have all:∀b o,cZ.heap.get? b=some o->s'.heap.get? b=some o\/(b=Pt/\∃more,s'.heap.get? Pt=some (tabObj (#[]++more)))\/(b=Pu/\∃more,s'.heap.get? Pu=some (tabObj (#[]++more))):=λb o e=>by
     by_cases hbP:b=Pt
     .obtain⟨more,e2⟩:=un.pH Pt #[] hO.1;exact .inr (.inl ⟨hbP,more,T_ _ _ e2⟩)
     by_cases hbU:b=Pu
     .obtain⟨more,e2⟩:=un.pH Pu #[] hO.2.1;exact .inr (.inr ⟨hbU,more,T_ _ _ e2⟩)
     cases q:H b with
     |none=>exact .inl (un.keep b o e q (by intro z;exact absurd (show b∈([]:List aq) from z) ς) ς)
     |some u=>
      rcases hO.2.2 b with z|z|z|⟨ob,xs,z⟩
      .exact absurd z hbP
      .exact absurd z hbU
      .rw[q] at z;cases z
      .have z2:=un.qr b ob _ z;obtain⟨e1,_⟩:=dh b _ z;obtain⟨e2,_⟩:=T_ b _ z2;rw[e] at e1;cases e1;exact .inl e2
    refine⟨rfl,⟨λb o e=>?_,λb o e=>?_⟩,os,bare⟩
    .rcases all b o e with z|⟨rfl,more,z⟩|⟨rfl,more,z⟩
     .exact .inl z
     .rw[hT] at e;cases e;exact .inr (.inl ⟨hct,rfl,#[],more,rfl,z⟩)
     .rw[hU] at e;cases e;exact .inr (.inl ⟨Zj,rfl,#[],more,rfl,z⟩)
    .rcases all b o e with z|⟨rfl,more,z⟩|⟨rfl,more,z⟩
     .exact⟨_,z⟩
     .exact⟨_,z⟩
     .exact⟨_,z⟩
 have pick:∀(r:Option HO) (b:aq),(if b=Pt then some (HO.jT #[]) else if b=Pu then some (HO.jT #[]) else if b=a then r else none)=(if b=Pt then some (HO.jT #[]) else if b=Pu then some (HO.jT #[]) else if b=a then r else none):=λ_ _=>rfl;have c1:∀(r:Option HO) (b:aq),b≠Pt->b≠Pu->b≠a->(if b=Pt then some (HO.jT #[]) else if b=Pu then some (HO.jT #[]) else if b=a then r else none)=none:=λr b n1 n2 n3=>by rw[aI n1,aI n2,aI n3]
 have c2:∀(r:Option HO),(if a=Pt then some (HO.jT #[]) else if a=Pu then some (HO.jT #[]) else if a=a then r else none)=r:=λr=>by rw[aI naP,aI naU,aJ rfl]
 have c3:∀(r:Option HO),(if Pu=Pt then some (HO.jT #[]) else if Pu=Pu then some (HO.jT #[]) else if Pu=a then r else none)=some (HO.jT #[]):=λr=>by rw[aI PB,aJ rfl]
 have fin:∀(r:Option HO),(r=none/\K.lookup a≠none\/r=some (.Bj {cls:=.type "list",data:=.seq vs.toArray} (.lst (ns.map V.int)))/\K.lookup a=none)->gj K (λb=>if b=Pt then some (HO.jT #[]) else if b=Pu then some (HO.jT #[]) else if b=a then r else none) a (ns.map V.int)-> codeAny (model P w) callerA (.call (.ref fa) ⟨[.ref a],[]⟩) (λr s'=>r=.ok (.ret (.bool true))/\OldK cZ.heap s'.heap/\s'.os=cZ.os/\AllBare s'.gens) cZ:=λr vY hS=>by
  refine core (λb=>if b=Pt then some (HO.jT #[]) else if b=Pu then some (HO.jT #[]) else if b=a then r else none) ⟨aJ rfl,c3 r,λb=>?_⟩ hS (λb u z=>?_) (λb z=>?_) (λz=>?_)
  .by_cases e:b=Pt
   .exact .inl e
   .by_cases e2:b=Pu
    .exact .inr (.inl e2)
    .by_cases hb:b=a
     .subst hb;rcases vY with⟨vY,_⟩|⟨vY,_⟩
      .exact .inr (.inr (.inl ((c2 r).trans vY)))
      .exact .inr (.inr (.inr ⟨_,_,(c2 r).trans vY⟩))
     .exact .inr (.inr (.inl (c1 r b e e2 hb)))
  .by_cases e:b=Pt
   .have z':=(aJ e).symm.trans z;cases z';subst e;exact hT
   .by_cases e2:b=Pu
    .subst e2;have z':=(c3 r).symm.trans z;cases z';exact hU
    .by_cases hb:b=a
     .subst hb;have z':=(c2 r).symm.trans z;rcases vY with⟨vY,_⟩|⟨vY,_⟩
      .rw[vY] at z';cases z'
      .rw[vY] at z';cases z';exact⟨ha,by rw[ah];exact hl,vs,_,rv,ha⟩
     .have z':=(c1 r b e e2 hb).symm.trans z;cases z'
  .by_cases e:b=Pt
   .exact .inr (.inl e)
   .by_cases e2:b=Pu
    .exact .inr (.inr e2)
    .by_cases hb:b=a
     .exact .inl hb
     .exact absurd (c1 r b e e2 hb) z
  .rcases vY with⟨vY,_⟩|⟨_,hk⟩
   .exact absurd ((c2 r).trans vY) z
   .exact hk
 cases hk:K.lookup a with
 |some o=>have e:=KX a o hk;rw[ha] at e;cases e;exact fin none (.inl ⟨rfl,by rw[hk];simp⟩) (.inr ⟨_,vs.toArray,_,hk,rfl,rfl,rfl,by rw[aC,aca];exact hl,by simpa using rv⟩)
 |none=>exact fin _ (.inr ⟨rfl,hk⟩) (.inl (.inr ⟨{cls:=.type "list",data:=.seq vs.toArray},c2 _⟩))
def F8 {l:PySem.W.OpenLaw} {K:Params->Φ}{CX:bg->CY}{sp:bg->Sp}(hn:l.most=some n) (ZH:n<=sizeLine) (VP:d.params.defaults=[]) (hr:eS k callerA) (hY:∀(w:bg) (h:Heap),YP w h->(K w.params).In h) (hYT:∀(w:bg) (h:Heap),YP w h->h.get? Pt=some (tabObj #[])) (Zh:∀w:bg,(K w.params).lookup Pt=none) (mX:∀w:bg,codeHdIn (K w.params) c Pt=true) (hYU:∀(w:bg) (h:Heap),YP w h->h.get? Pu=some (tabObj #[])) (Zi:∀w:bg,(K w.params).lookup Pu=none) (Zj:∀w:bg,codeHdIn (K w.params) c2 Pu=true) (PB:Pu≠Pt) (F:∀(w:bg) (mg:Aae) (fa:aq) (h:Heap),(K w.params).In h->h.Ns mainGlobals mg->mg d.name=some (.ref fa)-> ∃fd:FuncData,(∀(s:ar) (u:ai),BindsTo s fd ⟨[u],[]⟩ [(x,u)])/\ ∀base:Heap,(K w.params).In base->base.Ns mainGlobals mg->tz base mg->cG l.prog w (K w.params) mg base (CX w) k fa fd [x] (sp w)) (C4:∀(w:bg) (H:Hp) (a:aq) (ns:List Int),ns.length<=n->CI Pt Pu H->gj (K w.params) H a (ns.map V.int)->sp w [.ref a] H (λv _=>v=.bl true) λ_ _ _=>False) (hCX:∀(w:bg) (H:Hp) (s:ar) (e:ai) (s':ar),CX w [] H s (λ_ _ _=>False) e s'->False):
  PySem.W.WalkO q loose XP YP l.row.toRowW d [] (λf vs=>PySem.call f vs):=by
 refine zy hn VP λw iO cZ mg mb fa o pm cd doc a vs ns G Y ho hd acF hmg QK hints hlen hg=>?_;have KX:=hY w _ Y;obtain⟨fd,hb,hF⟩:=F w mg fa _ KX G.T.g hmg;obtain⟨bm,ob,b1,b2,b3,b4,b5,b6⟩:=G.T.bmain;obtain⟨oc,vc,f1,f2,f3,f4,f5,f6,f7,g1,g2,g3,g4,_⟩:=codeHd_of_K KX (mX w);obtain⟨oc2,vc2,_,_,_,_,_,_,_,h1,h2,h3,h4,_⟩:=codeHd_of_K KX (Zj w);exact CJ KX G.T.g G.T.b G.T.builtins G.T.nolimit hg ⟨bm,ob,b1,b2,b3,b4,b5,b6⟩ (hYT w _ Y) (Zh w) ⟨c,oc,vc,g1,g2,g3,g4⟩ (hYU w _ Y) (Zi w) ⟨c2,oc2,vc2,h1,h2,h3,h4⟩ PB QK hints (aB hlen ZH) hr hF hb (λH hO hS=>C4 w H a ns hlen hO hS) λH e s'=>hCX w H cZ e s'
structure gw (K:Φ) (C:aq) (x q:Str) (st:Stmt) (f:aq):Prop where
 a:findIn K (.ref C) x=some (some (.ref f))
 ex:∃(oc:ai) (od:Option aq) (kV doc pm:ai) (an:Option aq) (eU ct:ai) (qy:Array (Option ai)),K.lookup f=some ⟨oc,od,.func (fnOf x q (fW st) (eC st) (aP st) .none kV doc pm an eU ct),qy⟩/\codeIn K eU q=true
 n:isFn K (.ref f)=true
 k:keepIn K (.ref f)=true
section
variable {C:aq}{x q:Str}{st:Stmt}{f:aq}{k:Nat}{ps:Aab}{sp:Sp}
def standsM {kV doc pm:ai}(a:findIn K (.ref C) x=some (some (.ref f))) (l:K.lookup f=some ⟨oc,od,.func (fnOf x q (fW st) (eC st) (aP st) .none kV doc pm an eU ct),qy⟩) (c:codeIn K eU q=true) (n:isFn K (.ref f)=true) (k:keepIn K (.ref f)=true):gw K C x q st f:=⟨a,⟨oc,od,kV,doc,pm,an,eU,ct,qy,l,c⟩,n,k⟩
def gw.fn (S:gw K C x q st f):∃fd,gX K x q st f fd:=by obtain⟨oc,od,kV,doc,pm,an,eU,ct,qy,l,c⟩:=S.ex;exact⟨_,BG (st:=st) l c S.k⟩
def gw.Zk (S:gw K C x q st f):Bs K C x f:=⟨S.a,S.n,S.k⟩
abbrev BdA (x q:Str) (st:Stmt) (ps:Aab):Prop:=∀(kV doc pm:ai) (an:Option aq) (eU ct:ai) (us:Aad),us.length=ps.length->bindArgs (fnOf x q (fW st) (eC st) (aP st) .none kV doc pm an eU ct) ⟨us,[]⟩=pure (ps.zip us)
structure JX (P:aQ) (w:bg) (K:Φ) (mg:Aae) (base:Heap):Prop where
 ex:∃h:Heap,K.In h/\h.Ns mainGlobals mg
def JX.at (E:JX P w K mg base) (h:nsIn K mainGlobals x=some (some v)):mg x=some v:=by obtain⟨_,X,G⟩:=E.ex;exact mg_of X G h
def JX.no (E:JX P w K mg base) (h:nsIn K mainGlobals x=some none):mg x=none:=by obtain⟨_,X,G⟩:=E.ex;exact mg_none_of X G h
def JX.df (E:JX P w K mg base) (S:cu K x st f) (hF:∀fd,gX K x x st f fd->cG P w K mg base fK k f fd ps sp) (hb:BdA x x st ps:=by intro _ _ _ _ _ _ us hl;rcases us with _|⟨a,_|⟨b,_|⟨c,_|⟨d,_|⟨e,us⟩⟩⟩⟩⟩<;>first|(simp at hl;done)|rfl):Df P w K mg base k x ps sp:=by obtain⟨fd,F⟩:=S.fn;exact⟨_,fd,hF fd F,F.binds hb,S.k,E.at S.a⟩
def JX.dx (E:JX P w K mg base) (S:cu K x st f) (hF:∀fd,gX K x x st f fd->cG P w K mg base (yd P w) k f fd ps sp) (hb:BdA x x st ps:=by intro _ _ _ _ _ _ us hl;rcases us with _|⟨a,_|⟨b,_|⟨c,_|⟨d,_|⟨e,us⟩⟩⟩⟩⟩<;>first|(simp at hl;done)|rfl):Xs P w K mg base k x ps sp:=by obtain⟨fd,F⟩:=S.fn;exact⟨_,fd,hF fd F,F.binds hb,S.k,E.at S.a⟩
def JX.dm (E:JX P w K mg base) (c:CW K C) (S:gw K C x q st f) (hF:∀fd,gX K x q st f fd->cG P w K mg base fK k f fd ps sp) (hb:BdA x q st ps:=by intro _ _ _ _ _ _ us hl;rcases us with _|⟨a,_|⟨b,_|⟨c,_|⟨d,_|⟨e,us⟩⟩⟩⟩⟩<;>first|(simp at hl;done)|rfl):vE P w K mg base k C x ps sp:=by obtain⟨fd,F⟩:=S.fn;exact⟨c,_,fd,hF fd F,F.binds hb,S.Zk⟩
end
def all_mk {l:OpenLaw} {h:Heap} (Pt Pu:aq) (X:K.In h) (G:h.Ns mainGlobals mg) (hfa:mg "law"=some (.ref fa)) (s0:cu K "is_whole" B_ f0) (s1:cu K "is_name" HS f1) (s2:cu K "is_weight" yf f2) (s3:cu K "is_rower" Ca f3) (s4:cu K "is_crew" Ih f4) (s5:cu K "is_measure" Ij f5) (s6:cu K "is_piece" Cf f6) (s7:cu K "fraction" sFr f7) (s8:cu K "fraction_less" sFl f8) (s9:cu K "margin" sMg f9) (jW:cu K "exchanged" sEx f10) (De:cu K "exchanged_pair" sXp f11) (oW:cu K "trial_of" sTr f12) (zU:cu K "trial_or_none" sTn f13) (Dm:cu K "names_of" Sd f14) (LL:cu K "arm_of" SH f15) (Kh:cu K "names_for" sNf f16) (s17:cu K "trim_of" Ji f17) (s18:cu K "every_seating" sEv f18) (s19:cu K "moved_seats" sMv f19) (s20:cu K "is_clear" CF f20) (s21:cu K "led_to" S_ f21) (s22:cu K "places_from" Jv f22) (s23:cu K "verdict" Ta f23) (TF:cu K "ways_from" JB f24) (T5:cu K "ring" JC f25) (U7:cu K "partners" JD f26) (s27:cu K "fewest_between" Tf f27) (s28:cu K "further" Tg f28) (s29:cu K "groups_of" SY f29) (s30:cu K "gainsaid_by" S0 f30) (s31:cu K "best_of_group" S1 f31) (s32:cu K "best_order" Ks f32) (s33:cu K "rising_picks" To f33) (U6:cu K "crews_with_first" Tp f34) (CD:cu K "evened" Tq f35) (s36:cu K "_law_deck" HY f36) (s37:cu K "_law_pick" HZ f37) (s38:cu K "_law_names" Ce f38) (s39:cu K "_law_weight" sWt f39) (s40:cu K "_law_rig" sRg f40) (s41:cu K "_law_piece" sPc f41) (s42:cu K "_law_exchanged" sLx f42) (s43:cu K "_law_club" sCb f43) (s44:cu K "_law_all_told" sAl f44) (s45:cu K "_law_other_right" sOr f45) (m0S:gw K dC "__init__" "Club.__init__" IE g0) (m1S:gw K dC "__eq__" "Club.__eq__" sEq g1) (m2S:gw K dC "enter" "Club.enter" Cn g2) (m3S:gw K dC "come" "Club.come" IF g3) (m4S:gw K dC "tell" "Club.tell" IG g4) (m5S:gw K dC "strike" "Club.strike" R7 g5) (m6S:gw K dC "rowers" "Club.rowers" IH g6) (m7S:gw K dC "pieces" "Club.pieces" R8 g7) (m8S:gw K dC "trials" "Club.trials" R9 g8) {oc kV doc pm eU ct:ai} (a:nsIn K mainGlobals "law"=some (some (.ref f46))) (lk:K.lookup f46=some ⟨oc,od,.func (fnOf "law" "law" (fW yP) (eC yP) (aP yP) .none kV doc pm an eU ct),qy⟩) (cc:codeIn K eU "law"=true) (kk:keepIn K (.ref f46)=true) (c0:nsIn K mainGlobals "LONGEST_NAME"=some (some (.int 8 t0))) (c1:nsIn K mainGlobals "MOST_IN_CREW"=some (some (.int 4 t1))) (c2:nsIn K mainGlobals "LONGEST"=some (some (.int 1000000000 t2))) (c3:nsIn K mainGlobals "HEAVIEST"=some (some (.int 1000000 t3))) (c4:nsIn K mainGlobals "MOST_ROWERS"=some (some (.int 8 t4))) (x0:nsIn K mainGlobals "MOST_PIECES"=some (some (.int 40 u0))) (z0:nsIn K mainGlobals "ValueError"=some none) (z1:nsIn K mainGlobals "abs"=some none) (z2:nsIn K mainGlobals "all"=some none) (z3:nsIn K mainGlobals "any"=some none) (z4:nsIn K mainGlobals "bool"=some none) (z5:nsIn K mainGlobals "enumerate"=some none) (z6:nsIn K mainGlobals "int"=some none) (z7:nsIn K mainGlobals "isinstance"=some none) (z8:nsIn K mainGlobals "len"=some none) (z9:nsIn K mainGlobals "list"=some none) (z10:nsIn K mainGlobals "max"=some none) (z11:nsIn K mainGlobals "min"=some none) (z12:nsIn K mainGlobals "range"=some none) (z13:nsIn K mainGlobals "sorted"=some none) (z14:nsIn K mainGlobals "str"=some none) (z15:nsIn K mainGlobals "sum"=some none) (z16:nsIn K mainGlobals "tuple"=some none) (z17:nsIn K mainGlobals "zip"=some none) (n0:nsIn K mainGlobals "NoTrial"=some (some (.ref d0))) (nC:nsIn K mainGlobals "Club"=some (some (.ref dC))) (eT:excIn K d0 Rj "ValueError.__new__"=true) (xmT:exmOne K (.ref d0) (.ref d0)=some true) (pg:plainGet K dC Str.empty=true) (hd:hasDictIn K dC=true) (po:plainOver K dC=true) (sat:findIn K (.ref dC) "__setattr__"=some (some (.builtin "object.__setattr__"))) (aS:findIn K (.ref dC) "states"=some none) (aL2:findIn K (.ref dC) "left"=some none) (mk:makesIn K dC=true) (kp:keepIn K (.ref dC)=true) (ica:findIn K (.ref dC) "__class__"=some (some (.builtin "object.__class__"))) (icn:specialIn K (.builtin "object.__class__") "__get__"=some (some (.builtin "getset_descriptor.__get__"))) (ict:takesIn K (.builtin "object.__class__")=some true) (icm:mroIn K dC (.type "object")=some true) (ick:kitOne K (.ref dC) (.ref dC)=some true) (icq:findIn K (.ref dC) "__ne__"=some (some (.builtin "object.__ne__"))) {fS cS dS:aq} (sa:nsIn K mainGlobals "seated"=some (some (.ref fS))) (slk:K.lookup fS=some ⟨ocS,odS,.func (fnOf "seated" "seated" (fW Nq) (eC Nq) (aP Nq) (.ref dS) kVS acb pmS anS (.ref cS) ctS),acd⟩) (scd:codeIn K (.ref cS) "seated"=true) (skp:keepIn K (.ref fS)=true) (sdl:K.lookup dS=some ⟨ocD,odD,.seq #[.int 0 tkD] nD,acG⟩) (shd:codeHdIn K cS Pt=true) (ra:nsIn K mainGlobals "reseated"=some (some (.ref fR))) (rlk:K.lookup fR=some ⟨ocR,odR,.func (fnOf "reseated" "reseated" (fW Kq) (eC Kq) (aP Kq) .none kVR Zl pmR anR (.ref cR) ctR),ace⟩) (rcd:codeIn K (.ref cR) "reseated"=true) (rkp:keepIn K (.ref fR)=true) (rhd:codeHdIn K cR Pu=true): ∃fd:FuncData,(∀(s:ar) (v:ai),BindsTo s fd ⟨[v],[]⟩ [("script",v)])/\∀base:Heap,K.In base->base.Ns mainGlobals mg->tz base mg->cG l.prog w K mg base fK 7 fa fd ["script"] (Eo K Pt Pu):=by
 have e:=hfa.symm.trans (mg_of X G a);cases e;have FL:=BG (st:=yP) lk cc kk;refine⟨fnOf "law" "law" (fW yP) (eC yP) (aP yP) .none kV doc pm an eU ct,λs v=>.of_eq rfl,λbase KB _ BB=>?_⟩;have E:JX l.prog w K mg base:=⟨h,X,G⟩;have T:Txt mg:=⟨E.no z0,E.no z1,E.no z2,E.no z3,E.no z4,E.no z5,E.no z6,E.no z7,E.no z8,E.no z9,E.no z10,E.no z11,E.no z12,E.no z13,E.no z14,E.no z15,E.no z16,E.no z17,⟨_,E.at c0⟩,⟨_,E.at c1⟩,⟨_,E.at c2⟩,⟨_,E.at c3⟩,⟨_,E.at c4⟩⟩;have Ep:=E.df s0 λ_ F=>HW F T;have JY:=E.df s1 λ_ F=>Mj F T;have Zm:=E.df s2 λ_ F=>Fp F T Ep;have Zn:=E.df s3 λ_ F=>HX F T (JY.up δ) Zm;have Ua:=E.df s4 λ_ F=>IY F T (JY.imp yq.old);have Ub:=E.df s5 λ_ F=>MX F T (Ep.imp yq.old);have Oe:=E.df s6 λ_ F=>MY F T Ua Ub;have acf:=E.df s7 λ_ F=>WY F T;have Uc:=acf.imp UT.old;have acg:=E.df s8 λ_ F=>R1 F Uc;have ach:=E.df s9 λ_ F=>R0 F Uc;have aci:=E.df jW λ_ F=>R3 F T;have acj:=E.dx De λ_ F=>R4 F ⟨E.at n0,eT⟩ aci;have ack:=E.dx oW λ_ F=>R5 F T acj acg ach;have acm:=E.df zU λ_ F=>R6 F (E.at n0) xmT ack;have Zo:=E.df Dm λ_ F=>MZ F;have Zp:=E.df LL λ_ F=>Nl F T;have acn:=E.df Kh λ_ F=>SI F T;have JZ:=E.df s17 λ_ F=>Jj F T Zp;have Zq:=E.df s18 λ_ F=>Nk F T acn;have aco:=E.df s19 λ_ F=>SS F T;have FS:AJ K "seated" "seated" Nq fS _ cS dS:=⟨⟨ocS,odS,kVS,acb,pmS,anS,ctS,acd,rfl,slk,scd⟩,skp⟩;have Zr:U4 l.prog w K mg base 4 "seated" ["rowers","rig","most"] (SeC Pt):=⟨_,_,SQ FS T (codeHd_of_K KB shd) BB Zq JZ,FS.Zg sdl,⟨_,FS.Zf sdl⟩,skp,E.at sa⟩;have FR:Nt K "reseated" "reseated" Kq fR _ cR:=⟨⟨ocR,odR,.none,kVR,Zl,pmR,anR,ctR,ace,rfl,rlk,rcd⟩,rkp⟩;have bR:Binds K (fnOf "reseated" "reseated" (fW Kq) (eC Kq) (aP Kq) .none kVR Zl pmR anR (.ref cR) ctR) ["rowers","rig","seating","absent"] []:=.all λus hl=>by rcases us with _|⟨a,_|⟨b,_|⟨c,_|⟨d,_|⟨e,us⟩⟩⟩⟩⟩<;>first|(simp at hl;done)|rfl
 have acp:Df l.prog w K mg base 5 "reseated" ["rowers","rig","seating","absent"] (RsC Pu):=⟨_,_,SU FR T (codeHd_of_K KB rhd) BB Zq JZ aco,bR,rkp,E.at ra⟩;have yR:=E.df s20 λ_ F=>FZ F;have PF:=E.df s21 λ_ F=>NO F yR;have Ud:=E.df s22 λ_ F=>JA F yR PF;have Zs:=E.df s23 λ_ F=>NQ F Ud;have J5:=E.df TF λ_ F=>JH F T PF;have Ue:=E.df T5 λ_ F=>JN F T yR J5;have Ug:=E.df U7 λ_ F=>JO F;have Zu:=E.df s27 λ_ F=>NU F T J5 Ug;have Zv:=E.df s28 λ_ F=>NV F T Zu;have Zw:=E.df s29 λ_ F=>NB F;have Zx:=E.df s30 λ_ F=>NC F;have Zy:=E.df s31 λ_ F=>ND F T;have acq:=E.df s32 λ_ F=>S8 F T Zx Zw Zy Uc;have Zz:=E.df s33 λ_ F=>NW F T;have ZA:=E.df U6 λ_ F=>NX F T Zz;have ZC:=E.df CD λ_ F=>Tv F T ZA;have Uh:=E.df s36 λ_ F=>Mn F;have Ui:=E.df s37 λ_ F=>Mo F;have J6:=Ui.imp As.old;have vA:=J6.imp Gj.old;have Of:=E.df s38 λ_ F=>FA F T vA;have acr:=E.df s39 λ_ F=>RU F vA;have acs:=E.df s40 λ_ F=>RV F T vA;have acu:=E.df s41 λ_ F=>RQ F T vA;have acv:=E.df s42 λ_ F=>RT F T vA;have ZD:=Zn.imp yq.old;have acw:=acm.imp TnC.old;have ZE:=acq.up (show 2<=3 by decide);have Uj:=Uh.imp Z8.old;have CC:O4 K dC:=⟨⟨pg,hd,po,sat⟩,aS,aL2⟩;have yS:=E.dm CC.c m2S λ_ F=>FH F T CC;have yT:=E.dm CC.c m6S λ_ F=>I_ F T CC;have AX:=E.dm CC.c m7S λ_ F=>Na F T CC;have PH:=E.dm CC.c m8S λ_ F=>Nf F T AX acw;have J7:=E.dm CC.c m3S λ_ F=>Jb F T CC ZD Zo yS;have J8:=E.dm CC.c m4S λ_ F=>I0 F T ⟨_,E.at x0⟩ CC Oe yS;have J9:=E.dm CC.c m5S λ_ F=>M_ F CC yS;have DK:DfC l.prog w K mg base dC:=by obtain⟨_,F⟩:=m0S.fn;exact⟨_,_,⟨mk,m0S.a,m0S.n,kp⟩,MK F CC,F.binds (ps:=["self"]) (by intro _ _ _ _ _ _ us hl;rcases us with _|⟨a,_|⟨b,_|⟨c,us⟩⟩⟩<;>first|(simp at hl;done)|rfl),E.at nC⟩
 have DQ:TM l.prog w K mg base dC:=by obtain⟨_,F⟩:=m1S.fn;exact⟨_,_,TL F T (E.at nC) ⟨CC.c,ica,icn,ict,icm⟩ ick yT AX,F.binds (ps:=["self","other"]) (by intro _ _ _ _ _ _ us hl;rcases us with _|⟨a,_|⟨b,_|⟨c,us⟩⟩⟩<;>first|(simp at hl;done)|rfl),m1S.Zk,icq,icm⟩
 have acx:=E.df s43 λ_ F=>XT F T DK J6 Of acr acu acv J7 J8 yT AX;have acy:=E.df s44 λ_ F=>Y0 F Ue ZE Zs Zv Zr;have acz:=E.df s45 λ_ F=>Y5 F T DK DQ J7 J8 yT AX PH J9;exact T3 FL T Uj acx yT AX PH acy acs Zr acp ZE ZC acz
def walk {l:OpenLaw} {K:Params->Φ}(hn:l.most=some 63) (VP:d.params.defaults=[]) (hY:∀(w:bg) (h:Heap),YP w h->(K w.params).In h) (hYT:∀(w:bg) (h:Heap),YP w h->h.get? Pt=some (tabObj #[])) (Zh:∀w:bg,(K w.params).lookup Pt=none) (mX:∀w:bg,codeHdIn (K w.params) c Pt=true) (hYU:∀(w:bg) (h:Heap),YP w h->h.get? Pu=some (tabObj #[])) (Zi:∀w:bg,(K w.params).lookup Pu=none) (Zj:∀w:bg,codeHdIn (K w.params) c2 Pu=true) (PB:Pu≠Pt) (F:∀(w:bg) (mg:Aae) (fa:aq) (h:Heap),(K w.params).In h->h.Ns mainGlobals mg->mg d.name=some (.ref fa)-> ∃fd:FuncData,(∀(s:ar) (u:ai),BindsTo s fd ⟨[u],[]⟩ [("script",u)])/\∀base:Heap,(K w.params).In base->base.Ns mainGlobals mg->tz base mg->cG l.prog w (K w.params) mg base fK 7 fa fd ["script"] (Eo (K w.params) Pt Pu)):
  WalkO q loose XP YP l.row.toRowW d [] (λf vs=>PySem.call f vs):=
 F8 (n:=63) (k:=7) (x:="script") (CX:=λ_=>fK) (sp:=λw=>Eo (K w.params) Pt Pu) hn δ VP ⟨rfl,δ,δ,rfl⟩ hY hYT Zh mX hYU Zi Zj PB F (λ_ _ a ns hl hO hS=>⟨a,ns,rfl,hS,hl,.inl hO.1,.inl hO.2.1,PB,λ_=>rfl⟩) λ_ _ _ _ _ z=>z
end
end L2
structure PySem.W.Fast:Prop where
 (tw3253568899840605065 tw9760124614652136694 tw13649137111115584098 tw5570348599305860356 tw1654064008252964763 tw18380904857592259268 tw14932905569770296842 tw2534925154030743484 tw7615835833274242630 tw17196768267847632554 tw10579710660579393092 tw11726538611275179290 tw15751843460289858412 tw9186501783580054027 tw8892652511342831667 tw6846920668158712019 tw8456401600196478105 tw6161773305388058090 tw5906535612703678892 tw11779607494209788497 tw13217237059938504726 tw3262232615958217908 tw3059174154769266212 tw8706096129005468454 tw3498069361250287038 tw2288807570853317185 tw6268387361772794025 tw11107347155672755565 tw8355797503052647499 tw10690797829552583381 tw9555456177977246605 tw16937694324042694949 tw6743717287399803157 tw8238803971865029158 tw8300671331752655286 tw13288641063741454493 tw11703417072769056418 tw2401572407210352349 tw4670905968655692191 tw14515781891669798929 tw15786352913551666420 tw2569094017288394275 tw1742340770214861359 tw13366506809249825676 tw14523957680476617487 tw5812945062682871675 tw940824789309619043 tw4318408363155009466 tw8595517946233103364 tw567529991652676180 tw14508076309286540597 tw7840023496365079231 tw5880590788972623442 tw1580461651014524335 tw12506464718442670120 tw9096047724849865380 tw8392193886274691256 tw2396311654297460231 tw5487768298854219839 tw17772645576892452958 tw3917976004769573476 tw6751293765061792755 tw8911818423295378655 tw11534665103151096941 tw14799420298080527519 tw4052363257114504972 tw15890420719332210077 tw10012336070681028032 tw14705268967360451074 tw16301460096542223561 tw15099404910569414292 tw6505968264470501807 tw2495900361727492944 tw4474736460057077450 tw2532754248327868355 tw8602853382415711273 tw7618974221403042002 tw7654149746603160212 tw1195747738838277084 tw4506276843426682026 tw14544495246626423554 tw10834500506014569912 tw824015350807883284 tw16657899999387618845 tw3013978287675644800 tw4822687983037341645 tw7603681574453546539 tw13637605295119556951 tw515556721411767685 tw2040283167553369779 tw9179045509773144667 tw11120146170603455674 tw11379710389868656659 tw162788242104440846 tw1951042390947478271 tw11839486443087853578 tw14816814676258932197 tw15275425163459231899 tw10067149610444963896 tw10674986952265887147 tw11310404634564780463 tw2519045959480398676 tw6570674638539419055 tw9575559484255165785 tw5424927357539792977 tw5905262720318397278 tw14672298976234966117 tw7054447942517454072 tw16800867925136572439 tw12541747194105097093 tw8217684396043578866 tw13190557743994958926 tw1615280795288268420 tw13442105565719465861 tw2022549723003335486 tw8867434131860024232 tw7445964814700031737 tw4079465071830377941 tw9760087466405948683 tw6510035283090243368 tw13118995098607851911 tw13280364264672836082 tw5750639055325936242 tw298419042334571703 tw6966123086951667386 tw14044537264960769817 tw14050334006853518631 tw15862166150439288124 tw1818997140480038799 tw9217399201075735262 tw17779005890008613345 tw17567681868005105707 tw2102971087871715252 tw4039938192732910627 tw2675652479529709098 tw9928890155628677710 tw2140605829330471771 tw9315751817316468128 tw1094051483537534058 tw10047835616168146412:True)
set_option maxRecDepth 100000 in
set_option maxHeartbeats 0 in
theorem PySem.Challenge.cw_rowtrim_k26_told_things_handed_on_holds : PySem.Challenge.rw_rowtrim_k26_told_things_handed_on.Holds := by
  w_on; (refine PySem.W.holds_law (by decide +kernel) fun said=>?_); k_head; (case hw=>w_witness2)
  k_fill
  refine L2.walk (l:=PySem.Challenge.rw_rowtrim_k26_told_things_handed_on) (c:=254) (c2:=264) (Pt:=252) (Pu:=262) rfl rfl (fun w h Y=>PySem.W.km_in_of Y) (fun w h Y=>PySem.W.km_tabs_of Y 252 (List.Mem.tail _ (List.Mem.head _))) (fun w=>by kernel_rfl) (fun w=>by kernel_rfl) (fun w h Y=>PySem.W.km_tabs_of Y 262 (List.Mem.head _)) (fun w=>by kernel_rfl) (fun w=>by kernel_rfl) δ ?F
  case F =>
    intro w mg fa h KX G hmg
    refine' L2.all_mk 252 262 KX G hmg (L2.stands ?a0 ?l0 ?c0 ?k0) (L2.stands ?a1 ?l1 ?c1 ?k1) (L2.stands ?a2 ?l2 ?c2 ?k2) (L2.stands ?a3 ?l3 ?c3 ?k3) (L2.stands ?a4 ?l4 ?c4 ?k4) (L2.stands ?a5 ?l5 ?c5 ?k5) (L2.stands ?a6 ?l6 ?c6 ?k6) (L2.stands ?a7 ?l7 ?c7 ?k7) (L2.stands ?a8 ?l8 ?c8 ?k8) (L2.stands ?a9 ?l9 ?c9 ?k9) (L2.stands ?a10 ?l10 ?c10 ?k10) (L2.stands ?a11 ?l11 ?c11 ?k11) (L2.stands ?a12 ?l12 ?c12 ?k12) (L2.stands ?a13 ?l13 ?c13 ?k13) (L2.stands ?a14 ?l14 ?c14 ?k14) (L2.stands ?a15 ?l15 ?c15 ?k15) (L2.stands ?a16 ?l16 ?c16 ?k16) (L2.stands ?a17 ?l17 ?c17 ?k17) (L2.stands ?a18 ?l18 ?c18 ?k18) (L2.stands ?a19 ?l19 ?c19 ?k19) (L2.stands ?a20 ?l20 ?c20 ?k20) (L2.stands ?a21 ?l21 ?c21 ?k21) (L2.stands ?a22 ?l22 ?c22 ?k22) (L2.stands ?a23 ?l23 ?c23 ?k23) (L2.stands ?a24 ?l24 ?c24 ?k24) (L2.stands ?a25 ?l25 ?c25 ?k25) (L2.stands ?a26 ?l26 ?c26 ?k26) (L2.stands ?a27 ?l27 ?c27 ?k27) (L2.stands ?a28 ?l28 ?c28 ?k28) (L2.stands ?a29 ?l29 ?c29 ?k29) (L2.stands ?a30 ?l30 ?c30 ?k30) (L2.stands ?a31 ?l31 ?c31 ?k31) (L2.stands ?a32 ?l32 ?c32 ?k32) (L2.stands ?a33 ?l33 ?c33 ?k33) (L2.stands ?a34 ?l34 ?c34 ?k34) (L2.stands ?a35 ?l35 ?c35 ?k35) (L2.stands ?a36 ?l36 ?c36 ?k36) (L2.stands ?a37 ?l37 ?c37 ?k37) (L2.stands ?a38 ?l38 ?c38 ?k38) (L2.stands ?a39 ?l39 ?c39 ?k39) (L2.stands ?a40 ?l40 ?c40 ?k40) (L2.stands ?a41 ?l41 ?c41 ?k41) (L2.stands ?a42 ?l42 ?c42 ?k42) (L2.stands ?a43 ?l43 ?c43 ?k43) (L2.stands ?a44 ?l44 ?c44 ?k44) (L2.stands ?a45 ?l45 ?c45 ?k45) (L2.standsM ?p0 ?q0 ?r0 ?s0 ?t0) (L2.standsM ?p1 ?q1 ?r1 ?s1 ?t1) (L2.standsM ?p2 ?q2 ?r2 ?s2 ?t2) (L2.standsM ?p3 ?q3 ?r3 ?s3 ?t3) (L2.standsM ?p4 ?q4 ?r4 ?s4 ?t4) (L2.standsM ?p5 ?q5 ?r5 ?s5 ?t5) (L2.standsM ?p6 ?q6 ?r6 ?s6 ?t6) (L2.standsM ?p7 ?q7 ?r7 ?s7 ?t7) (L2.standsM ?p8 ?q8 ?r8 ?s8 ?t8) ?aL ?lL ?cL ?kL ?b0 ?b1 ?b2 ?b3 ?b4 ?x0 ?z0 ?z1 ?z2 ?z3 ?z4 ?z5 ?z6 ?z7 ?z8 ?z9 ?z10 ?z11 ?z12 ?z13 ?z14 ?z15 ?z16 ?z17 ?n0 ?h0 ?h1 ?h2 ?h3 ?h4 ?h5 ?h6 ?h7 ?h8 ?h9 ?h10 ?h11 ?h12 ?h13 ?h14 ?h15 ?h16 ?sa ?slk ?scd ?skp ?sdl ?shd ?ra ?rlk ?rcd ?rkp ?rhd
    (case a0 | l0 | c0 | k0 | a1 | l1 | c1 | k1 | a2 | l2 | c2 | k2 | a3 | l3 | c3 | k3 | a4 | l4 | c4 | k4 | a5 | l5 | c5 | k5 | a6 | l6 | c6 | k6 | a7 | l7 | c7 | k7 | a8 | l8 | c8 | k8 | a9 | l9 | c9 | k9 | a10 | l10 | c10 | k10 | a11 | l11 | c11 | k11 | a12 | l12 | c12 | k12 | a13 | l13 | c13 | k13 | a14 | l14 | c14 | k14 | a15 | l15 | c15 | k15 | a16 | l16 | c16 | k16 | a17 | l17 | c17 | k17 | a18 | l18 | c18 | k18 | a19 | l19 | c19 | k19 | a20 | l20 | c20 | k20 | a21 | l21 | c21 | k21 | a22 | l22 | c22 | k22 | a23 | l23 | c23 | k23 | a24 | l24 | c24 | k24 | a25 | l25 | c25 | k25 | a26 | l26 | c26 | k26 | a27 | l27 | c27 | k27 | a28 | l28 | c28 | k28 | a29 | l29 | c29 | k29 | a30 | l30 | c30 | k30 | a31 | l31 | c31 | k31 | a32 | l32 | c32 | k32 | a33 | l33 | c33 | k33 | a34 | l34 | c34 | k34 | a35 | l35 | c35 | k35 | a36 | l36 | c36 | k36 | a37 | l37 | c37 | k37 | a38 | l38 | c38 | k38 | a39 | l39 | c39 | k39 | a40 | l40 | c40 | k40 | a41 | l41 | c41 | k41 | a42 | l42 | c42 | k42 | a43 | l43 | c43 | k43 | a44 | l44 | c44 | k44 | a45 | l45 | c45 | k45 | n0 | h0 | p0 | q0 | r0 | s0 | t0 | p1 | q1 | r1 | s1 | t1 | p2 | q2 | r2 | s2 | t2 | p3 | q3 | r3 | s3 | t3 | p4 | q4 | r4 | s4 | t4 | p5 | q5 | r5 | s5 | t5 | p6 | q6 | r6 | s6 | t6 | p7 | q7 | r7 | s7 | t7 | p8 | q8 | r8 | s8 | t8 | x0 | aL | lL | cL | kL | b0 | b1 | b2 | b3 | b4 | z0 | z1 | z2 | z3 | z4 | z5 | z6 | z7 | z8 | z9 | z10 | z11 | z12 | z13 | z14 | z15 | z16 | z17 | sa | slk | scd | skp | sdl | ra | rlk | rcd | rkp=>k_is)
    (case shd=>kernel_rfl)
    (case rhd=>kernel_rfl)
    (case h1=>k_exc)
    (case h2=>kts_exm)
    (case h3 | h4 | h5 | h6 | h7 | h8 | h9 | h10 | h11 | h12 | h13 | h14 | h16=>k_is)
    (case h15=>kit_is)
#print axioms PySem.Challenge.cw_rowtrim_k26_told_things_handed_on_holds
